import PyProof.Rows.All
import Wide.All
import OpenK.AllK
import Wide.FinOn
import Lean
import PyProof.EqAt
import PyProof.EqKinds
import PyProof.TupleCall
import KE.KIntText
import PyProof.StrLawsChain
import PySem.Challenge.RW_hirefair_k03_shows_short
set_option Elab.async false
set_option linter.all false
set_option maxRecDepth 100000
/-! THE HAND LAYER, for ints, bools, texts, own classes, LISTS and tuples (index, slices, in, append, pop ..), calls, loops. Paste it whole ahead of your own text; what your proof does not reach may be deleted. -/
namespace L2
open PySem PySem.Spec PyProof.Rows

/-- a key: an int or a str -/
abbrev Key := Sum Int Str
def keyIs : Key → Value → Bool
  | .inl k, v => Value.isInt k v
  | .inr x, v => Value.isStrOf x v
def keyH (w : World) : Key → Int
  | .inl k => hashInt k
  | .inr x => hashStr w x
theorem keyIs_shape : ∀ {k : Key} {v : Value}, keyIs k v = true → (∃ i t, k = Sum.inl i ∧ v = Value.int i t) ∨ (∃ x t, k = Sum.inr x ∧ v = Value.str x t)
  | .inl i, v, h => by
    obtain ⟨t, e⟩ := Value.isInt_shape (k := i) (v := v) h
    exact .inl ⟨i, t, rfl, e⟩
  | .inr x, v, h => by
    obtain ⟨t, e⟩ := Value.isStrOf_shape (x := x) (v := v) h
    exact .inr ⟨x, t, rfl, e⟩
theorem key_ll (a b : Int) : decide ((Sum.inl a : Key) = Sum.inl b) = (a == b) := by
  by_cases e : a = b
  · subst e; simp
  · have h : ¬ (Sum.inl a : Key) = Sum.inl b := fun q => e (Sum.inl.inj q)
    rw [decide_eq_false h]
    exact (beq_eq_false_iff_ne.mpr e).symm
theorem key_rr (a b : Str) : decide ((Sum.inr a : Key) = Sum.inr b) = decide (a = b) := by
  by_cases e : a = b
  · subst e; simp
  · have h : ¬ (Sum.inr a : Key) = Sum.inr b := fun q => e (Sum.inr.inj q)
    rw [decide_eq_false h, decide_eq_false e]
theorem key_lr (a : Int) (b : Str) : decide ((Sum.inl a : Key) = Sum.inr b) = false := decide_eq_false (fun q => nomatch q)
theorem key_rl (a : Str) (b : Int) : decide ((Sum.inr a : Key) = Sum.inl b) = false := decide_eq_false (fun q => nomatch q)

def mixKind (prog : Program) (w : World) : PySem.KeyKind prog w Key where
  is := keyIs
  hash := keyH w
  inj := fun v a b ha hb => by
    rcases keyIs_shape ha with ⟨i, t, rfl, rfl⟩ | ⟨x, t, rfl, rfl⟩
    · rcases keyIs_shape hb with ⟨j, u, rfl, e⟩ | ⟨y, u, rfl, e⟩
      · injection e with e1 _; rw [e1]
      · exact nomatch e
    · rcases keyIs_shape hb with ⟨j, u, rfl, e⟩ | ⟨y, u, rfl, e⟩
      · exact nomatch e
      · injection e with e1 _; rw [e1]
  byValue := fun k v h => by
    rcases keyIs_shape h with ⟨i, t, rfl, rfl⟩ | ⟨x, t, rfl, rfl⟩ <;> rfl
  pyHash := fun hv h => by
    rcases keyIs_shape hv with ⟨i, t, rfl, rfl⟩ | ⟨x, t, rfl, rfl⟩
    · exact wpAny_pyHash_int h
    · exact wpAny_pyHash_str h
  eqBool := fun hu hv h => by
    rcases keyIs_shape hu with ⟨i, t, rfl, rfl⟩ | ⟨x, t, rfl, rfl⟩
    · rcases keyIs_shape hv with ⟨j, u, rfl, rfl⟩ | ⟨y, u, rfl, rfl⟩
      · rw [key_ll] at h; exact wpAny_eqBool_int h
      · rw [key_lr] at h; exact SeqAt.EqAt.int_str i t y u _ _ _ _ h
    · rcases keyIs_shape hv with ⟨j, u, rfl, rfl⟩ | ⟨y, u, rfl, rfl⟩
      · rw [key_rl] at h; exact SeqAt.EqAt.str_int x t j u _ _ _ _ h
      · rw [key_rr] at h; exact wpAny_eqBool_str h
  «strs» := fun k x t v h => by
    rcases keyIs_shape h with ⟨i, u, rfl, e⟩ | ⟨y, u, rfl, e⟩
    · exact nomatch e
    · injection e with e1 _
      subst e1
      cases v <;> rfl

end L2

namespace L2
open PySem PySem.Spec PyProof.Rows

/-- a value, without the heap -/
inductive V where
  | non | bl (b : Bool) | int (i : Int) | str (x : Str) | byt (b : Array UInt8) | flt (b : UInt64) | ref (a : Addr) | ty (n : String)
  deriving DecidableEq

def RelV : V → Value → Prop
  | .non, u => u = Value.none
  | .bl b, u => u = Value.bool b
  | .int i, u => ∃ t, u = Value.int i t
  | .str x, u => ∃ t, u = Value.str x t
  | .byt b, u => ∃ t, u = Value.bytes b t
  | .flt b, u => ∃ t, u = Value.float b t
  | .ref a, u => u = Value.ref a
  | .ty n, u => u = Value.type n

abbrev Vals : List V → List Value → Prop := Paired RelV
theorem Vals.length {xs : List V} {us : List Value} (r : Vals xs us) : xs.length = us.length := Paired.length r
theorem Vals.get : ∀ {xs : List V} {us : List Value} {i : Nat} {x : V}, Vals xs us → xs[i]? = some x → ∃ u, us[i]? = some u ∧ RelV x u
  | _, _, _, _, .nil, e => by simp at e
  | _, _, 0, _, .cons r _, e => by simp at e; subst e; exact ⟨_, rfl, r⟩
  | _, _, i + 1, x, .cons _ t, e => by
    obtain ⟨u, h1, h2⟩ := Vals.get (i := i) (x := x) t (by simpa using e)
    exact ⟨u, by simpa using h1, h2⟩
theorem Vals.set {x : V} {u : Value} (r : RelV x u) : ∀ {xs : List V} {us : List Value} (i : Nat), Vals xs us → Vals (xs.set i x) (us.set i u)
  | _, _, _, .nil => .nil
  | _, _, 0, .cons _ t => .cons r t
  | _, _, i + 1, .cons q t => .cons q (Vals.set r i t)
theorem Vals.append : ∀ {xs ys : List V} {us ws : List Value}, Vals xs us → Vals ys ws → Vals (xs ++ ys) (us ++ ws)
  | _, _, _, _, .nil, s => s
  | _, _, _, _, .cons r t, s => .cons r (Vals.append t s)
theorem Vals.take : ∀ {xs : List V} {us : List Value} (n : Nat), Vals xs us → Vals (xs.take n) (us.take n)
  | _, _, 0, _ => .nil
  | _, _, _ + 1, .nil => .nil
  | _, _, n + 1, .cons r t => .cons r (Vals.take n t)
theorem Vals.drop : ∀ {xs : List V} {us : List Value} (n : Nat), Vals xs us → Vals (xs.drop n) (us.drop n)
  | _, _, 0, r => r
  | _, _, _ + 1, .nil => .nil
  | _, _, n + 1, .cons _ t => Vals.drop n t
def RelO : Option V → Option Value → Prop
  | some v, some u => RelV v u
  | none, none => True
  | _, _ => False
def KV {κ : Type} : List (κ × V) → List (κ × Value) → Prop := Paired fun (p : κ × V) (q : κ × Value) => p.1 = q.1 ∧ RelV p.2 q.2

/-- a key of a dict (00_mix): an int or a text -/
def kV : Key → V
  | .inl i => .int i
  | .inr x => .str x

/-- what stands at a tracked address -/
inductive HO where
  /-- a list -/
  | lst (xs : List V)
  /-- a tuple (never changes) -/
  | tup (xs : List V)
  /-- a dict whose keys are ints and texts; one whose keys are tuples of ints and texts (the empty one is both) -/
  | dK (kvs : List (Key × V)) | dT (kvs : List (List Key × V))
  /-- a set of ints: its members, its size -/
  | set (S : Int → Bool) (n : Nat)
  /-- an instance of the class at C, its dict at dx, its attributes -/
  | ins (C dx : Addr) (fs : List (Str × V))
  /-- the dict of the instance at x -/
  | own (x : Addr)
  /-- the dict of an exception -/
  | xd (fs : List (Str × V))
  /-- a bound method, f of x -/
  | met (f x : Addr)
  /-- a range object lo, lo + 1, .. below hi -/
  | rng (lo hi : Int)
  /-- a thing that is known to the object (the script; a dict while a loop walks it): read, never written while it is so -/
  | frz (o : Obj) (u : HO)
  /-- a code object's table -/
  | tbl (ps : Array Value)
  /-- any other thing, by what is true of its one object (a def of one's own: SetO a S n := HO.ext fun h => ..) -/
  | ext (φ : Heap → Prop)

abbrev Hp := Addr → Option HO
def upd (H : Hp) (a : Addr) (o : HO) : Hp := fun b => if b = a then some o else H b
theorem upd_same {H : Hp} {a : Addr} {o : HO} : upd H a o a = some o := by unfold upd; rw [if_pos rfl]
theorem upd_ne {H : Hp} {a b : Addr} {o : HO} (h : b ≠ a) : upd H a o b = H b := by unfold upd; rw [if_neg h]
theorem ne_of_none {H : Hp} {a b : Addr} {o : HO} (h : H a = some o) (h' : H b = none) : a ≠ b := by
  intro e; subst e; rw [h] at h'; cases h'

section
variable (P : Program) (w : World)
def ObjOk (H : Hp) (h : Heap) (a : Addr) : HO → Prop
  | .lst xs => xs.length ≤ sizeLine ∧ ∃ (its : List Value) (n : Nat), Vals xs its ∧ h.get? a = some { cls := .type "list", data := .seq its.toArray n }
  | .tup xs => xs.length ≤ sizeLine ∧ ∃ its : List Value, Vals xs its ∧ IsTup h a its.toArray
  | .dK kvs => kvs.length ≤ sizeLine ∧ (a == sysModules) = false ∧ ∃ vs, KV kvs vs ∧ h.DictOf (mixKind P w) a vs
  | .dT kvs => kvs.length ≤ sizeLine ∧ (a == sysModules) = false ∧ ∃ xs : List (List Key × Addr × Value),
      Paired (fun (p : List Key × V) (q : List Key × Addr × Value) => p.1 = q.1 ∧ H q.2.1 = some (.tup (p.1.map kV)) ∧ RelV p.2 q.2.2) kvs xs ∧
      ∃ o es ep, h.get? a = some o ∧ o.ExactDict ∧ o.data = .dict es ep ∧ es.toList = xs.map (entryOfKey (tupleKind (mixKind P w))) ∧ (xs.map (·.1)).Nodup
  | .set S n => h.SetOf (intKind P w) a S n
  | .ins C dx fs => H dx = some (.own a) ∧ fs.length ≤ 1000 ∧ dx ≠ a ∧ h.get? a = some (PySem.W.instObj C dx) ∧
      ∃ mA, h.Ns1 dx mA ∧ (∀ f, RelO (fs.lookup f) (mA f)) ∧ PySem.Within mA (fs.map (·.1))
  | .own _ => ∃ o, h.get? a = some o
  | .xd fs => ∃ mA, h.Ns1 a mA ∧ ∀ f, RelO (fs.lookup f) (mA f)
  | .rng lo hi => ∃ t u v, h.get? a = some { cls := .type "range", data := .fields #[.int lo t, .int hi u, .int 1 v] }
  | .frz o u => h.get? a = some o ∧ ObjOk H h a u
  | .tbl ps => h.get? a = some { cls := .none, data := .fields ps }
  | .met f x => h.get? a = some (PySem.W.methodObj (.ref f) (.ref x))
  | .ext φ => φ h ∧ (∃ o, h.get? a = some o) ∧ ∀ h1 h2 : Heap, φ h1 → (∀ o, h1.get? a = some o → h2.get? a = some o) → φ h2
/-- the abstract heap is held -/
def HOk (H : Hp) (h : Heap) : Prop := ∀ a o, H a = some o → ObjOk P w H h a o
end

section
variable {P : Program} {w : World} {H H' : Hp} {h h' : Heap} {a : Addr} {o : HO}
theorem ObjOk.lt (x : ObjOk P w H h a o) : a < h.objs.size := by
  cases o with
  | lst xs => obtain ⟨_, _, _, _, e⟩ := x; exact Heap.lt_size e
  | tup xs => obtain ⟨_, _, _, p⟩ := x; exact p.lt
  | dK kvs => obtain ⟨_, _, _, _, o, _, _, e, _⟩ := x; exact Heap.lt_size e
  | dT kvs => obtain ⟨_, _, _, _, o, _, _, e, _⟩ := x; exact Heap.lt_size e
  | set S n => obtain ⟨o, _, _, _, e, _⟩ := x; exact Heap.lt_size e
  | ins C dx fs => obtain ⟨_, _, _, e, _⟩ := x; exact Heap.lt_size e
  | own y => obtain ⟨_, e⟩ := x; exact Heap.lt_size e
  | xd fs => obtain ⟨_, ⟨_, _, _, e, _⟩, _⟩ := x; exact Heap.lt_size e
  | rng lo hi => obtain ⟨_, _, _, e⟩ := x; exact Heap.lt_size e
  | frz ob u => obtain ⟨e, _⟩ := x; exact Heap.lt_size e
  | tbl ps => exact Heap.lt_size (show h.get? a = some _ from x)
  | met f y => exact Heap.lt_size (show h.get? a = some _ from x)
  | ext φ => obtain ⟨_, ⟨_, e⟩, _⟩ := x; exact Heap.lt_size e
theorem Paired.mapP {α β : Type} {F G : α → β → Prop} : ∀ {l₁ : List α} {l₂ : List β}, Paired F l₁ l₂ → (∀ a b, F a b → G a b) → Paired G l₁ l₂
  | _, _, .nil, _ => .nil
  | _, _, .cons r t, f => .cons (f _ _ r) (Paired.mapP t f)
/-- what an object's description leans on: its own object, its own dict, the tuples -/
theorem ObjOk.stay (x : ObjOk P w H h a o) (k : ∀ b u, (b = a ∨ H b = some (.own a)) → h.get? b = some u → h'.get? b = some u)
    (ho : ∀ b, H b = some (.own a) → H' b = some (.own a)) (ht : ∀ b xs, H b = some (.tup xs) → H' b = some (.tup xs)) : ObjOk P w H' h' a o := by
  induction o with
  | lst xs => obtain ⟨z, its, n, r, e⟩ := x; exact ⟨z, its, n, r, k _ _ (.inl rfl) e⟩
  | tup xs => obtain ⟨z, its, r, ob, e, c⟩ := x; exact ⟨z, its, r, ob, k _ _ (.inl rfl) e, c⟩
  | dK kvs => obtain ⟨z, y, vs, r, ob, es, ep, e, c⟩ := x; exact ⟨z, y, vs, r, ob, es, ep, k _ _ (.inl rfl) e, c⟩
  | dT kvs =>
    obtain ⟨z, y, xs, r, ob, es, ep, e, c⟩ := x
    exact ⟨z, y, xs, Paired.mapP r fun p q z => ⟨z.1, ht _ _ z.2.1, z.2.2⟩, ob, es, ep, k _ _ (.inl rfl) e, c⟩
  | set S n => obtain ⟨ob, es, ep, t, e, c⟩ := x; exact ⟨ob, es, ep, t, k _ _ (.inl rfl) e, c⟩
  | ins C dx fs =>
    obtain ⟨d, z, ne, e, mA, ⟨od, es, ep, e2, c⟩, r⟩ := x
    exact ⟨ho _ d, z, ne, k _ _ (.inl rfl) e, mA, ⟨od, es, ep, k _ _ (.inr d) e2, c⟩, r⟩
  | own y => obtain ⟨ob, e⟩ := x; exact ⟨ob, k _ _ (.inl rfl) e⟩
  | xd fs => obtain ⟨mA, ⟨od, es, ep, e, c⟩, r⟩ := x; exact ⟨mA, ⟨od, es, ep, k _ _ (.inl rfl) e, c⟩, r⟩
  | rng lo hi => obtain ⟨t, u, v, e⟩ := x; exact ⟨t, u, v, k _ _ (.inl rfl) e⟩
  | frz ob u ih => obtain ⟨e, q⟩ := x; exact ⟨k _ _ (.inl rfl) e, ih q⟩
  | tbl ps =>
    have e : h.get? a = some { cls := .none, data := .fields ps } := x
    show h'.get? a = some { cls := .none, data := .fields ps }
    exact k a _ (.inl rfl) e
  | met f y =>
    have e : h.get? a = some (PySem.W.methodObj (.ref f) (.ref y)) := x
    show h'.get? a = some (PySem.W.methodObj (.ref f) (.ref y))
    exact k a _ (.inl rfl) e
  | ext φ => obtain ⟨p, ⟨o, e⟩, st⟩ := x; exact ⟨st _ _ p fun o q => k _ _ (.inl rfl) q, ⟨o, k _ _ (.inl rfl) e⟩, st⟩
theorem HOk.lt (x : HOk P w H h) (e : H a = some o) : a < h.objs.size := (x a o e).lt
theorem HOk.fresh (x : HOk P w H h) (e : h.objs.size ≤ a) : H a = none := by
  cases q : H a with
  | none => rfl
  | some u => exact absurd (Nat.lt_of_lt_of_le (x.lt q) e) (Nat.lt_irrefl _)
/-- every object of the heap is kept -/
theorem HOk.kept (x : HOk P w H h) (k : ∀ b u, h.get? b = some u → h'.get? b = some u) : HOk P w H h' := fun a o e =>
  (x a o e).stay (fun b u _ q => k b u q) (fun _ q => q) fun _ _ q => q
/-- a new object is laid and tracked -/
theorem HOk.laid (x : HOk P w H h) (k : ∀ b u, h.get? b = some u → h'.get? b = some u) (hp : h.objs.size ≤ a) (new : ObjOk P w (upd H a o) h' a o) : HOk P w (upd H a o) h' := fun b u e => by
  have hn := x.fresh hp
  by_cases hb : b = a
  · subst hb; rw [upd_same] at e; cases e; exact new
  · rw [upd_ne hb] at e
    exact (x b u e).stay (fun c v _ q => k c v q) (fun c q => by rw [upd_ne (ne_of_none q hn)]; exact q) fun c xs q => by rw [upd_ne (ne_of_none q hn)]; exact q
end

/-- what may be read as u: it is u, or a known u -/
def Rd (H : Hp) (a : Addr) (u : HO) : Prop := H a = some u ∨ ∃ o, H a = some (.frz o u)
theorem Rd.ok {P : Program} {w : World} {H : Hp} {h : Heap} {a : Addr} {u : HO} (r : Rd H a u) (x : HOk P w H h) : ObjOk P w H h a u := by
  rcases r with r | ⟨o, r⟩
  · exact x a u r
  · obtain ⟨_, q⟩ := x a _ r
    exact q
/-- what may be written -/
def Mut : Option HO → Prop
  | some (.lst _) => True
  | some (.dK _) => True
  | some (.dT _) => True
  | some (.set _ _) => True
  | some (.ins _ _ _) => True
  | some (.ext _) => True
  | _ => False
section
variable {P : Program} {w : World} {H : Hp} {h h' : Heap} {x e : Addr} {o' : HO}
/-- the object at e is changed: x itself, or the dict of the instance x -/
theorem HOk.write (ok : HOk P w H h) (mu : Mut (H x)) (he : e = x ∨ H e = some (.own x)) (k : ∀ b u, b ≠ e → h.get? b = some u → h'.get? b = some u) (heo : ∃ u, h'.get? e = some u)
    (new : ObjOk P w (upd H x o') h' x o') : HOk P w (upd H x o') h' := fun b u q => by
  have nown : ∀ c y, H c = some (.own y) → c ≠ x := fun c y r z => by subst z; rw [r] at mu; exact mu
  have ntup : ∀ c xs, H c = some (.tup xs) → c ≠ x := fun c xs r z => by subst z; rw [r] at mu; exact mu
  by_cases hb : b = x
  · subst hb; rw [upd_same] at q; cases q; exact new
  · rw [upd_ne hb] at q
    by_cases hbe : b = e
    · have q' : H b = some (.own x) := by
        rcases he with z | z
        · exact absurd (hbe.trans z) hb
        · rw [hbe]; exact z
      rw [q] at q'; cases q'
      obtain ⟨v, hv⟩ := heo
      exact ⟨v, by rw [hbe]; exact hv⟩
    · refine (ok b u q).stay (fun c v hc r => k c v ?_ r) (fun c r => by rw [upd_ne (nown c b r)]; exact r) fun c xs r => by rw [upd_ne (ntup c xs r)]; exact r
      rcases hc with rfl | hc
      · exact hbe
      · rintro rfl
        rcases he with z | z
        · exact nown c b hc z
        · rw [hc] at z; cases z; exact hb rfl
end

/-! ### kept unless tracked; of the frames at fs (the callers') the slots may change (an exception that passes writes there); of the records at ex (iterators) nothing is said -/
structure Un (fs ex : List Addr) (H H' : Hp) (h h' : Heap) : Prop where
  keep : ∀ b o, h.get? b = some o → H b = none → b ∉ fs → b ∉ ex → h'.get? b = some o
  slot : ∀ b o, h.get? b = some o → H b = none → b ∈ fs → b ∉ ex → ∃ sl, h'.get? b = some { o with slots := sl }
  free : ∀ b o, h.get? b = some o → H b = none → b ∉ ex → H' b = none
  there : ∀ b o, h.get? b = some o → b ∉ ex → ∃ o', h'.get? b = some o'
  tups : ∀ b xs, H b = some (.tup xs) → H' b = some (.tup xs)
  frzs : ∀ b o u, H b = some (.frz o u) → H' b = some (.frz o u)
  tbls : ∀ b ps, H b = some (.tbl ps) → ∃ more, H' b = some (.tbl (ps ++ more))
section
variable {fs fs' ex ex' : List Addr} {H H1 H2 : Hp} {h h1 h2 h' : Heap} {a x e : Addr} {o : HO}
theorem Un.any (u : Un fs ex H H1 h h1) {b : Addr} {ob : Obj} (q : h.get? b = some ob) (n : H b = none) (hx : b ∉ ex) : ∃ sl, h1.get? b = some { ob with slots := sl } := by
  by_cases hb : b ∈ fs
  · exact u.slot b ob q n hb hx
  · exact ⟨ob.slots, u.keep b ob q n hb hx⟩
theorem Un.kept (k : ∀ b u, h.get? b = some u → h'.get? b = some u) : Un fs ex H H h h' :=
  ⟨fun b ob q _ _ _ => k b ob q, fun b ob q _ _ _ => ⟨ob.slots, k b ob q⟩, fun _ _ _ n _ => n, fun b ob q _ => ⟨ob, k b ob q⟩, fun _ _ q => q, fun _ _ _ q => q, fun _ ps q => ⟨#[], by rw [q]; simp⟩⟩
theorem Un.refl : Un fs ex H H h h := Un.kept fun _ _ q => q
theorem Un.laid (k : ∀ b u, h.get? b = some u → h'.get? b = some u) (hp : h.objs.size ≤ a) (hn : H a = none) : Un fs ex H (upd H a o) h h' where
  keep := fun b u q _ _ _ => k b u q
  slot := fun b u q _ _ _ => ⟨u.slots, k b u q⟩
  free := fun b u q n _ => by rw [upd_ne (Nat.ne_of_lt (Nat.lt_of_lt_of_le (Heap.lt_size q) hp))]; exact n
  there := fun b u q _ => ⟨u, k b u q⟩
  tups := fun b xs q => by rw [upd_ne (ne_of_none q hn)]; exact q
  frzs := fun b u xs q => by rw [upd_ne (ne_of_none q hn)]; exact q
  tbls := fun b ps q => ⟨#[], by rw [upd_ne (ne_of_none q hn), q]; simp⟩
theorem Un.write (mu : Mut (H x)) (he : e = x ∨ H e = some (.own x)) (k : ∀ b u, b ≠ e → h.get? b = some u → h'.get? b = some u) (heo : ∃ u, h'.get? e = some u) : Un fs ex H (upd H x o) h h' := by
  have hx : ∀ b, H b = none → b ≠ x := fun b n z => by subst z; rw [n] at mu; exact mu
  have hb : ∀ b, H b = none → b ≠ e := fun b n z => by
    subst z
    rcases he with r | r
    · exact hx b n r
    · rw [n] at r; cases r
  have hm : ∀ b u, H b = some u → ¬ Mut (some u) → b ≠ x := fun b u q nm z => by subst z; rw [q] at mu; exact nm mu
  refine ⟨fun b u q n _ _ => k b u (hb b n) q, fun b u q n _ _ => ⟨u.slots, k b u (hb b n) q⟩, fun b u q n _ => by rw [upd_ne (hx b n)]; exact n, fun b u q _ => ?_,
    fun b xs q => by rw [upd_ne (hm b _ q fun z => z)]; exact q, fun b u xs q => by rw [upd_ne (hm b _ q fun z => z)]; exact q, fun b ps q => ⟨#[], by rw [upd_ne (hm b _ q fun z => z), q]; simp⟩⟩
  by_cases hbe : b = e
  · subst hbe; exact heo
  · exact ⟨u, k b u hbe q⟩
end

/-! ### the heap without what is tracked -/
def trk (h : Heap) (H : Hp) : List Addr := (List.range h.objs.size).filter fun a => (H a).isSome
def hidT (h : Heap) (H : Hp) : Heap := PySem.W.hideAll h (trk h H)
theorem hidT_size (h : Heap) (H : Hp) : (hidT h H).objs.size = h.objs.size := PySem.W.hideAll_size _ _
theorem hidT_get {h : Heap} {H : Hp} {b : Addr} {o : Obj} (e : h.get? b = some o) (n : H b = none) : (hidT h H).get? b = some o :=
  PySem.W.hideAll_get _ e fun hm => by
    have q : (H b).isSome = true := (List.mem_filter.mp hm).2
    rw [n] at q; simp at q
theorem of_hidT {h : Heap} {H : Hp} {b : Addr} {o : Obj} (e : (hidT h H).get? b = some o) : h.get? b = some o ∧ H b = none := by
  have e' : h.get? b = some o := PySem.W.of_hideAll (trk h H) e
  refine ⟨e', ?_⟩
  cases q : H b with
  | none => rfl
  | some x =>
    have hm : b ∈ trk h H := List.mem_filter.mpr ⟨List.mem_range.mpr (Heap.lt_size e'), by simp [q]⟩
    have z : (hidT h H).get? b = none := PySem.W.hideAll_none (trk h H) hm
    rw [z] at e; cases e

/-! ### OpenK's ledger, filled with every new object but one -/
end L2

namespace L2
open PySem PySem.Spec PyProof.Rows

/-- the module's facts, over the base: the heap at the law's entry without what is tracked there -/
structure Mod (K : PySem.W.Frag) (mg : Str → Option Value) (base : Heap) : Prop where
  kin : K.In base
  glob : base.Ns mainGlobals mg
  blt : ∃ mb, base.Ns builtinsNs mb ∧ ∀ x : Str, x ≠ "__name__" → mb x = bootBuiltins x
  nolimit : base.NoLimit

/-- the context: a def's body (or a comprehension's block) running. base: fixed through the whole law; s₀, H₀: the entry; outer: the frames whose slots others may change (a def's callers); stack: all frames that run;
   ex: iterators that were made ahead of the entry and are walked here (a comprehension's); fn: the names whose cells were made at the entry (a def: all; a comprehension's block: its own); calm: not within an except suite; pn: pins that every state bears; xe: what is wanted of an exception that leaves the code -/
structure Cx where
  prog : Program
  w : World
  K : PySem.W.Frag
  mg : Str → Option Value
  base : Heap
  A : Around
  N : List Str
  s₀ : Shared
  H₀ : Hp
  env : Env
  outer : List Env
  stack : List Env
  ex : List Addr
  fn : Str → Bool
  calm : Bool
  pn : List (Addr × Obj)
  xe : Value → Shared → Prop
/-- the callers' frames -/
def frs (l : List Env) : List Addr := l.filterMap (·.frame)
abbrev Cx.fs (X : Cx) : List Addr := frs X.outer

def Vis (sc : Scope) (x : Str) : Prop := sc.names.lookup x = some .local ∨ sc.names.lookup x = some .cell ∨ sc.names.lookup x = some .free
def Loc (sc : Scope) (x : Str) : Prop := sc.names.lookup x = some .local ∨ sc.names.lookup x = some .cell
def Look (env : Env) (h : Heap) (m : Str → Option Value) (x : Str) (u : Value) : Prop :=
  (env.kindOf x = some .local ∧ m x = some u) ∨ ((env.kindOf x = some .cell ∨ env.kindOf x = some .free) ∧ ∃ c, env.cells.lookup x = some c ∧ h.IsCell c (some u))

structure Cx.Ok (X : Cx) : Prop where
  mod : Mod X.K X.mg X.base
  kind : X.env.scope.kind = .function
  glob : X.env.globals = mainGlobals
  blt : X.env.builtins = builtinsNs
  above : X.s₀.heap.objs.size ≤ X.env.locals
  inj : ∀ x y c, X.env.cells.lookup x = some c → X.env.cells.lookup y = some c → x = y
  has : ∀ x, (X.env.kindOf x = some .cell ∨ X.env.kindOf x = some .free) → ∃ c, X.env.cells.lookup x = some c
  cab : ∀ x c, X.fn x = true → X.env.cells.lookup x = some c → X.s₀.heap.objs.size ≤ c
  hd : X.calm = true → X.A.handled = none
  frames : X.A.frames = some X.stack
  stk : X.stack = X.outer ∨ (X.stack = X.env :: X.outer ∧ X.env.frame = some X.env.locals)
  exf : ∀ b ∈ X.ex, b ≠ X.env.locals ∧ ∀ x c, X.env.cells.lookup x = some c → c ≠ b
  bs : ∀ b o, X.base.get? b = some o → X.s₀.heap.get? b = some o ∧ X.H₀ b = none
  bsz : X.base.objs.size ≤ X.s₀.heap.objs.size
  noex : ∀ b o, X.base.get? b = some o → b ∉ X.ex
  exfs : ∀ b ∈ X.ex, b ∉ X.fs
  funs : X.s₀.heap.FunFrames X.base X.outer
  frf : ∀ b ∈ X.fs, X.H₀ b = none

structure Inv (X : Cx) (pins : List (Addr × Obj)) (σ : List (Option V)) (H : Hp) (s : Shared) : Prop where
  ok : X.Ok
  os : s.os = X.s₀.os
  bare : AllBare s.gens
  base : Un X.fs X.ex X.H₀ H X.s₀.heap s.heap
  loc : ∃ m, s.heap.Ns X.env.locals m ∧ ∀ (i : Nat) (x : Str) (v : V), X.N[i]? = some x → σ[i]? = some (some v) → Vis X.env.scope x → ∃ u, RelV v u ∧ Look X.env s.heap m x u
  cell : ∀ x c, X.env.cells.lookup x = some c → ∃ v, s.heap.IsCell c v
  free : H X.env.locals = none
  freeC : ∀ x c, X.env.cells.lookup x = some c → H c = none
  pin : ∀ p ∈ X.pn ++ pins, s.heap.get? p.1 = some p.2 ∧ H p.1 = none ∧ p.1 ≠ X.env.locals ∧ p.1 ∉ X.fs ∧ ∀ v, p.2.data ≠ .cell v
  hok : HOk X.prog X.w H s.heap
  len : σ.length = X.N.length

section
variable {X : Cx} {pins : List (Addr × Obj)} {σ : List (Option V)} {H H' : Hp} {s : Shared} {h' : Heap}

theorem Cx.Ok.nofr (ok : X.Ok) {b : Addr} {o : Obj} (e : X.base.get? b = some o) : b ∉ X.fs := fun hb => by
  have := (ok.funs.mem hb).1
  rw [e] at this; cases this
theorem Inv.bs (I : Inv X pins σ H s) : ∀ b o, X.base.get? b = some o → s.heap.get? b = some o ∧ H b = none := fun b o e =>
  ⟨I.base.keep b o (I.ok.bs b o e).1 (I.ok.bs b o e).2 (I.ok.nofr e) (I.ok.noex b o e), I.base.free b o (I.ok.bs b o e).1 (I.ok.bs b o e).2 (I.ok.noex b o e)⟩
theorem Inv.bk (I : Inv X pins σ H s) : ∀ b o, X.base.get? b = some o → s.heap.get? b = some o := fun b o e => (I.bs b o e).1
theorem Inv.mod (I : Inv X pins σ H s) : Mod X.K X.mg X.base := I.ok.mod
theorem Inv.kIn (I : Inv X pins σ H s) : X.K.In s.heap := I.ok.mod.kin.keeps I.bk
theorem Inv.lt (I : Inv X pins σ H s) : X.env.locals < s.heap.objs.size := let ⟨_, hn, _⟩ := I.loc; hn.lt
theorem Inv.sz (I : Inv X pins σ H s) : X.s₀.heap.objs.size ≤ s.heap.objs.size := Nat.le_trans I.ok.above (Nat.le_of_lt I.lt)
theorem Inv.nofs (I : Inv X pins σ H s) {a : Addr} (h : s.heap.objs.size ≤ a) : a ∉ X.fs := fun hb => by
  obtain ⟨_, o, ho, _⟩ := I.ok.funs.mem hb
  exact absurd (Nat.lt_of_lt_of_le (Heap.lt_size ho) (Nat.le_trans I.sz h)) (Nat.lt_irrefl _)
theorem Inv.cne (I : Inv X pins σ H s) : ∀ x c, X.env.cells.lookup x = some c → c ≠ X.env.locals := fun x c e z => by
  obtain ⟨v, o, ho, hd⟩ := I.cell x c e
  obtain ⟨m, ⟨o', es, ep, ho', hd', _⟩, _⟩ := I.loc
  rw [z, ho'] at ho; cases ho; rw [hd'] at hd; cases hd
theorem Inv.funs (I : Inv X pins σ H s) : s.heap.FunFrames X.base X.outer := by
  have all : ∀ (l : List Env), (∀ b ∈ frs l, b ∈ X.fs) → X.s₀.heap.FunFrames X.base l → s.heap.FunFrames X.base l := by
    intro l
    induction l with
    | nil => intro _ _; trivial
    | cons env r ih =>
      intro hs hl
      obtain ⟨hk, ⟨L, o, hf, hn, ho, hd⟩, hr⟩ := hl
      have hL : L ∈ X.fs := hs L (by unfold frs; rw [List.filterMap_cons, hf]; exact List.mem_cons_self)
      obtain ⟨sl, e⟩ := I.base.slot L o ho (I.ok.frf L hL) hL fun z => I.ok.exfs L z hL
      exact ⟨hk, ⟨L, _, hf, hn, e, hd⟩, ih (fun b hb => hs b (by unfold frs; rw [List.filterMap_cons, hf]; exact List.mem_cons_of_mem _ hb)) hr⟩
  exact all X.outer (fun _ hb => hb) I.ok.funs

/-- the frames that run, for a call -/
theorem Inv.stack (I : Inv X pins σ H s) : s.heap.FunFrames X.base X.stack := by
  rcases I.ok.stk with e | ⟨e, hf⟩
  · rw [e]; exact I.funs
  · rw [e]
    obtain ⟨m, hn, _⟩ := I.loc
    refine .cons (by rw [I.ok.kind]; decide) hf hn ?_ I.funs
    exact Heap.get?_none_of_le (Nat.le_trans I.ok.bsz I.ok.above)
theorem Inv.stkSub (I : Inv X pins σ H s) : ∀ b ∈ frs X.stack, b ∈ X.env.locals :: X.fs := fun b hb => by
  rcases I.ok.stk with e | ⟨e, hf⟩
  · rw [e] at hb; exact List.mem_cons_of_mem _ hb
  · rw [e] at hb
    unfold frs at hb
    rw [List.filterMap_cons, hf] at hb
    exact hb
theorem Inv.stkFree (I : Inv X pins σ H s) : ∀ b ∈ frs X.stack, H b = none := fun b hb => by
  rcases List.mem_cons.mp (I.stkSub b hb) with e | hb
  · rw [e]; exact I.free
  · obtain ⟨_, o, ho, _⟩ := I.ok.funs.mem hb
    exact I.base.free b o ho (I.ok.frf b hb) fun z => I.ok.exfs b z hb

/-- THE STEP: the untracked objects but the frame and the records at ch are kept (the callers' frames up to slots), the frame's map is kept, the new abstract heap is held -/
theorem Inv.step {g' : Array GenState} {t' : Nat} {d' : Drawn} {ch : List Addr} (I : Inv X pins σ H s)
    (hch : ∀ b ∈ ch, (b ∈ X.ex ∨ X.s₀.heap.objs.size ≤ b) ∧ b ≠ X.env.locals ∧ (∀ x c, X.env.cells.lookup x = some c → c ≠ b) ∧ ∀ p ∈ X.pn ++ pins, p.1 ≠ b)
    (keep : ∀ b o, b ≠ X.env.locals → b ∉ X.fs → b ∉ ch → s.heap.get? b = some o → H b = none → h'.get? b = some o)
    (slot : ∀ b o, b ≠ X.env.locals → b ∈ X.fs → b ∉ ch → s.heap.get? b = some o → H b = none → ∃ sl, h'.get? b = some { o with slots := sl }) (free : ∀ b o, b ∉ ch → s.heap.get? b = some o → H b = none → H' b = none)
    (there : ∀ b o, b ∉ ch → s.heap.get? b = some o → ∃ o', h'.get? b = some o')
    (tups : ∀ b xs, H b = some (.tup xs) → H' b = some (.tup xs)) (frzs : ∀ b o u, H b = some (.frz o u) → H' b = some (.frz o u)) (tbls : ∀ b ps, H b = some (.tbl ps) → ∃ more, H' b = some (.tbl (ps ++ more)))
    (ns : ∀ m, s.heap.Ns X.env.locals m → h'.Ns X.env.locals m) (hok : HOk X.prog X.w H' h') (hg : AllBare g') :
    Inv X pins σ H' { s with heap := h', gens := g', drawn := d', toks := t' } := by
  have neL : ∀ b o, X.s₀.heap.get? b = some o → b ≠ X.env.locals := fun b o e => Nat.ne_of_lt (Nat.lt_of_lt_of_le (Heap.lt_size e) I.ok.above)
  have neC : ∀ b o, X.s₀.heap.get? b = some o → b ∉ X.ex → b ∉ ch := fun b o e hx hb => by
    rcases (hch b hb).1 with z | z
    · exact hx z
    · exact absurd (Nat.lt_of_lt_of_le (Heap.lt_size e) z) (Nat.lt_irrefl _)
  have cellK : ∀ x c, X.env.cells.lookup x = some c → ∀ v, s.heap.IsCell c v → h'.IsCell c v := fun x c e v ⟨o, ho, hd⟩ => by
    have nch : c ∉ ch := fun z => (hch c z).2.2.1 x c e rfl
    by_cases hc : c ∈ X.fs
    · obtain ⟨sl, q⟩ := slot c o (I.cne x c e) hc nch ho (I.freeC x c e)
      exact ⟨_, q, hd⟩
    · exact ⟨o, keep c o (I.cne x c e) hc nch ho (I.freeC x c e), hd⟩
  refine ⟨I.ok, I.os, hg, ⟨fun b o e n hb hx => ?_, fun b o e n hb hx => ?_, fun b o e n hx => ?_, fun b o e hx => ?_, fun b xs e => tups b xs (I.base.tups b xs e), fun b o xs e => frzs b o xs (I.base.frzs b o xs e), fun b ps e => ?_⟩, ?_, fun x c e => ?_, ?_, fun x c e => ?_, fun p hp => ?_, hok, I.len⟩
  · exact keep b o (neL b o e) hb (neC b o e hx) (I.base.keep b o e n hb hx) (I.base.free b o e n hx)
  · obtain ⟨sl, e1⟩ := I.base.slot b o e n hb hx
    obtain ⟨sl', e2⟩ := slot b _ (neL b o e) hb (neC b o e hx) e1 (I.base.free b o e n hx)
    exact ⟨sl', e2⟩
  · obtain ⟨o', e1⟩ := I.base.there b o e hx
    exact free b o' (neC b o e hx) e1 (I.base.free b o e n hx)
  · obtain ⟨o', e1⟩ := I.base.there b o e hx
    exact there b o' (neC b o e hx) e1
  · obtain ⟨m1, e1⟩ := I.base.tbls b ps e
    obtain ⟨m2, e2⟩ := tbls b _ e1
    exact ⟨m1 ++ m2, by rw [e2, Array.append_assoc]⟩
  · obtain ⟨m, hn, hl⟩ := I.loc
    refine ⟨m, ns m hn, fun i x v e1 e2 e3 => ?_⟩
    obtain ⟨u, r, l⟩ := hl i x v e1 e2 e3
    refine ⟨u, r, ?_⟩
    rcases l with l | ⟨k, c, e, z⟩
    · exact .inl l
    · exact .inr ⟨k, c, e, cellK x c e _ z⟩
  · obtain ⟨v, z⟩ := I.cell x c e
    exact ⟨v, cellK x c e v z⟩
  · obtain ⟨m, ⟨o, _, _, ho, _⟩, _⟩ := I.loc
    exact free _ o (fun z => (hch _ z).2.1 rfl) ho I.free
  · obtain ⟨v, o, ho, hd⟩ := I.cell x c e
    exact free c o (fun z => (hch c z).2.2.1 x c e rfl) ho (I.freeC x c e)
  · obtain ⟨e, n, ne, nf, d⟩ := I.pin p hp
    have nch : p.1 ∉ ch := fun z => (hch p.1 z).2.2.2 p hp rfl
    exact ⟨keep p.1 p.2 ne nf nch e n, free p.1 p.2 nch e n, ne, nf, d⟩
/-- .. where the frame's own object is kept too -/
theorem Inv.un {t' : Nat} (I : Inv X pins σ H s) (u : Un X.fs [] H H' s.heap h') (hok : HOk X.prog X.w H' h') : Inv X pins σ H' { s with heap := h', toks := t' } := by
  obtain ⟨m, ⟨o, es, ep, ho, r⟩, _⟩ := id I.loc
  obtain ⟨sl, hL⟩ := u.any ho I.free (by simp)
  exact I.step (g' := s.gens) (d' := s.drawn) (ch := []) (fun _ z => nomatch z) (fun b o _ hb _ e n => u.keep b o e n hb (by simp)) (fun b o _ hb _ e n => u.slot b o e n hb (by simp)) (fun b o _ e n => u.free b o e n (by simp)) (fun b o _ e => u.there b o e (by simp)) u.tups u.frzs u.tbls (fun m' hm => by
    obtain ⟨o', es', ep', ho', r'⟩ := hm
    rw [ho] at ho'; cases ho'
    exact ⟨_, es', ep', hL, r'⟩) hok I.bare
/-- behind a call (or a comprehension's block): the slots of this frame may have changed too, the records at ch may have turned -/
theorem Inv.call {g' : Array GenState} {t' : Nat} {d' : Drawn} {ch : List Addr} (I : Inv X pins σ H s) (u : Un (frs X.stack) ch H H' s.heap h') (hok : HOk X.prog X.w H' h') (hg : AllBare g')
    (hch : ∀ b ∈ ch, (b ∈ X.ex ∨ X.s₀.heap.objs.size ≤ b) ∧ b ≠ X.env.locals ∧ (∀ x c, X.env.cells.lookup x = some c → c ≠ b) ∧ ∀ p ∈ X.pn ++ pins, p.1 ≠ b) :
    Inv X pins σ H' { s with heap := h', gens := g', drawn := d', toks := t' } := by
  obtain ⟨m, ⟨o, es, ep, ho, r⟩, _⟩ := id I.loc
  obtain ⟨sl, hL⟩ := u.any ho I.free fun z => (hch _ z).2.1 rfl
  exact I.step (ch := ch) hch (fun b o hL hb hc e n => u.keep b o e n (fun z => (List.mem_cons.mp (I.stkSub b z)).elim hL hb) hc) (fun b o _ _ hc e n => u.any e n hc) (fun b o hc e n => u.free b o e n hc) (fun b o hc e => u.there b o e hc) u.tups u.frzs u.tbls (fun m' hm => by
    obtain ⟨o', es', ep', ho', r'⟩ := hm
    rw [ho] at ho'; cases ho'
    exact ⟨_, es', ep', hL, r'⟩) hok hg
/-- an untracked record of ours (an iterator) has turned -/
theorem Inv.turned {t' : Nat} {it : Addr} (I : Inv X pins σ H s) (k : ∀ b o, b ≠ it → s.heap.get? b = some o → h'.get? b = some o) (hn : H it = none) (hL : it ≠ X.env.locals)
    (h1 : it ∈ X.ex ∨ X.s₀.heap.objs.size ≤ it) (h2 : ∀ x c, X.env.cells.lookup x = some c → c ≠ it) (h3 : ∀ p ∈ X.pn ++ pins, p.1 ≠ it) : Inv X pins σ H { s with heap := h', toks := t' } := by
  have nit : ∀ b u, H b = some u → b ≠ it := fun b u e z => by rw [z, hn] at e; cases e
  refine I.step (g' := s.gens) (d' := s.drawn) (ch := [it]) (fun b hb => ?_) (fun b o _ _ hc e _ => k b o (fun z => hc (by simp [z])) e) (fun b o _ _ hc e _ => ⟨o.slots, k b o (fun z => hc (by simp [z])) e⟩) (fun _ _ _ _ n => n)
    (fun b o hc e => ⟨o, k b o (fun z => hc (by simp [z])) e⟩) (fun _ _ e => e) (fun _ _ _ e => e) (fun b ps e => ⟨#[], by rw [e]; simp⟩) (fun m hm => ?_) (fun b u e => ?_) I.bare
  · have e : b = it := by simpa using hb
    subst e
    exact ⟨h1, hL, h2, h3⟩
  · obtain ⟨o, es, ep, ho, r⟩ := hm
    exact ⟨o, es, ep, k _ o (Ne.symm hL) ho, r⟩
  · refine (I.hok b u e).stay (fun c v hc q => k c v ?_ q) (fun _ q => q) fun _ _ q => q
    rcases hc with z | z
    · rw [z]; exact nit b u e
    · exact nit c _ z
theorem Inv.tok (I : Inv X pins σ H s) (t : Nat) : Inv X pins σ H { s with toks := t } := I.un (h' := s.heap) (t' := t) Un.refl I.hok
/-- all objects kept -/
theorem Inv.kept {t' : Nat} (I : Inv X pins σ H s) (k : ∀ b u, s.heap.get? b = some u → h'.get? b = some u) : Inv X pins σ H { s with heap := h', toks := t' } := I.un (Un.kept k) (I.hok.kept k)
/-- a new object laid and tracked -/
theorem Inv.laid {a : Addr} {o : HO} {t' : Nat} (I : Inv X pins σ H s) (k : ∀ b u, s.heap.get? b = some u → h'.get? b = some u) (hp : s.heap.objs.size ≤ a) (new : ObjOk X.prog X.w (upd H a o) h' a o) :
    Inv X pins σ (upd H a o) { s with heap := h', toks := t' } := I.un (Un.laid k hp (I.hok.fresh hp)) (I.hok.laid k hp new)
/-- an object written -/
theorem Inv.write {x e : Addr} {o : HO} {t' : Nat} (I : Inv X pins σ H s) (mu : Mut (H x)) (he : e = x ∨ H e = some (.own x)) (k : ∀ b u, b ≠ e → s.heap.get? b = some u → h'.get? b = some u) (heo : ∃ u, h'.get? e = some u)
    (new : ObjOk X.prog X.w (upd H x o) h' x o) : Inv X pins σ (upd H x o) { s with heap := h', toks := t' } := I.un (Un.write mu he k heo) (I.hok.write mu he k heo new)
theorem Inv.pins_of {pins' : List (Addr × Obj)} (I : Inv X pins σ H s) (h : ∀ p ∈ pins', s.heap.get? p.1 = some p.2 ∧ H p.1 = none ∧ p.1 ≠ X.env.locals ∧ p.1 ∉ X.fs ∧ ∀ v, p.2.data ≠ .cell v) : Inv X pins' σ H s :=
  ⟨I.ok, I.os, I.bare, I.base, I.loc, I.cell, I.free, I.freeC, fun p hp => (List.mem_append.mp hp).elim (fun z => I.pin p (List.mem_append_left _ z)) (h p), I.hok, I.len⟩

theorem nodup_ix {N : List Str} (hN : N.Nodup) {i j : Nat} {x : Str} (a : N[i]? = some x) (b : N[j]? = some x) : i = j := by
  obtain ⟨h1, e1⟩ := List.getElem?_eq_some_iff.mp a
  obtain ⟨h2, e2⟩ := List.getElem?_eq_some_iff.mp b
  exact (List.getElem_inj hN).mp (e1.trans e2.symm)

/-- a name is stored; what changed -/
theorem store_ok2 {M : Model} {A : Around} {E : Value → Shared → Prop} {i : Nat} {x : Str} {v : V} {u : Value} {Q : Unit → Shared → Prop} (I : Inv X pins σ H s) (hN : X.N.Nodup) (hi : X.N[i]? = some x) (hx : Loc X.env.scope x) (r : RelV v u)
    (h : ∀ s', Inv X pins (σ.set i (some v)) H s' → (∃ a, Heap.SameBut a s.heap s'.heap ∧ (a = X.env.locals ∨ X.env.cells.lookup x = some a)) → Q () s') (hf : X.fn x = true ∨ X.env.scope.names.lookup x = some .local := by first | exact .inl rfl | exact .inr rfl | assumption) : wpAny M A (storeName X.env x u) Q E s := by
  obtain ⟨m, hn, hl⟩ := id I.loc
  have hcls : (X.env.scope.kind == .class || (X.env.scope.kind == .module && X.env.locals != X.env.globals)) = false := by rw [I.ok.kind]; rfl
  have hiσ : i < σ.length := by rw [I.len]; exact (List.getElem?_eq_some_iff.mp hi).1
  have cne := I.cne
  have tracked : ∀ {a : Addr} {h' : Heap}, (∃ o, s.heap.get? a = some o ∧ H a = none) → Heap.SameBut a s.heap h' → HOk X.prog X.w H h' := fun {a h'} ha hs b ob e => by
    obtain ⟨_, _, hfree⟩ := ha
    refine (I.hok b ob e).stay (fun c w' hc q => (hs.2 c ?_).trans q) (fun _ q => q) fun _ _ q => q
    rintro rfl
    rcases hc with rfl | hc
    · rw [hfree] at e; cases e
    · rw [hfree] at hc; cases hc
  rcases hx with hk | hk
  · refine wpAny_storeName_local hk hn (fun h' hn' hs => ?_) hcls
    obtain ⟨oL, _, _, hoL, _⟩ := id hn
    refine h _ ⟨I.ok, I.os, I.bare, ⟨fun b o e n hb hx => ?_, fun b o e n hb hx => ?_, I.base.free, fun b o e hx => ?_, I.base.tups, I.base.frzs, I.base.tbls⟩, ⟨_, hn', fun j y v' e1 e2 e3 => ?_⟩, fun y c e => ?_, I.free, I.freeC, fun p hp => ?_, tracked ⟨oL, hoL, I.free⟩ hs, by simpa using I.len⟩ ⟨_, hs, .inl rfl⟩
    · exact (hs.2 b (Nat.ne_of_lt (Nat.lt_of_lt_of_le (Heap.lt_size e) I.ok.above))).trans (I.base.keep b o e n hb hx)
    · obtain ⟨sl, e1⟩ := I.base.slot b o e n hb hx
      exact ⟨sl, (hs.2 b (Nat.ne_of_lt (Nat.lt_of_lt_of_le (Heap.lt_size e) I.ok.above))).trans e1⟩
    · obtain ⟨o', e1⟩ := I.base.there b o e hx
      exact ⟨o', (hs.2 b (Nat.ne_of_lt (Nat.lt_of_lt_of_le (Heap.lt_size e) I.ok.above))).trans e1⟩
    · by_cases hj : j = i
      · subst hj
        rw [hi] at e1; cases e1
        rw [List.getElem?_set_self hiσ] at e2
        cases e2
        exact ⟨u, r, .inl ⟨hk, by simp⟩⟩
      · rw [List.getElem?_set_ne (Ne.symm hj)] at e2
        obtain ⟨u', r', q⟩ := hl j y v' e1 e2 e3
        refine ⟨u', r', ?_⟩
        rcases q with ⟨k, e⟩ | ⟨k, c, e, z⟩
        · refine .inl ⟨k, ?_⟩
          have : y ≠ x := fun e => hj (nodup_ix hN e1 (e ▸ hi))
          simp [this, e]
        · exact .inr ⟨k, c, e, z.sameBut hs (cne y c e)⟩
    · obtain ⟨w', z⟩ := I.cell y c e
      exact ⟨w', z.sameBut hs (cne y c e)⟩
    · obtain ⟨e, n, ne, nf, d⟩ := I.pin p hp
      exact ⟨(hs.2 p.1 ne).trans e, n, ne, nf, d⟩
  · have hfn : X.fn x = true := by
      rcases hf with z | z
      · exact z
      · rw [z] at hk; cases hk
    obtain ⟨c, hc⟩ := I.ok.has x (.inl hk)
    obtain ⟨w', z⟩ := I.cell x c hc
    refine wpAny_storeName_cell I.ok.kind hk hc z (fun h' hc' hs => ?_)
    obtain ⟨oc, hoc, hocd⟩ := id z
    refine h { s with heap := h' } ⟨I.ok, I.os, I.bare, ⟨fun b o e n hb hx => ?_, fun b o e n hb hx => ?_, I.base.free, fun b o e hx => ?_, I.base.tups, I.base.frzs, I.base.tbls⟩, ⟨m, hn.sameBut hs (Ne.symm (cne x c hc)), fun j y v' e1 e2 e3 => ?_⟩, fun y c' e => ?_, I.free, I.freeC, fun p hp => ?_, tracked ⟨oc, hoc, I.freeC x c hc⟩ hs, by simpa using I.len⟩ ⟨c, hs, .inr hc⟩
    · exact (hs.2 b (Nat.ne_of_lt (Nat.lt_of_lt_of_le (Heap.lt_size e) (I.ok.cab x c hfn hc)))).trans (I.base.keep b o e n hb hx)
    · obtain ⟨sl, e1⟩ := I.base.slot b o e n hb hx
      exact ⟨sl, (hs.2 b (Nat.ne_of_lt (Nat.lt_of_lt_of_le (Heap.lt_size e) (I.ok.cab x c hfn hc)))).trans e1⟩
    · obtain ⟨o', e1⟩ := I.base.there b o e hx
      exact ⟨o', (hs.2 b (Nat.ne_of_lt (Nat.lt_of_lt_of_le (Heap.lt_size e) (I.ok.cab x c hfn hc)))).trans e1⟩
    · by_cases hj : j = i
      · subst hj
        rw [hi] at e1; cases e1
        rw [List.getElem?_set_self hiσ] at e2
        cases e2
        exact ⟨u, r, .inr ⟨.inl hk, c, hc, hc'⟩⟩
      · rw [List.getElem?_set_ne (Ne.symm hj)] at e2
        obtain ⟨u', r', q⟩ := hl j y v' e1 e2 e3
        refine ⟨u', r', ?_⟩
        rcases q with q | ⟨k, c', e, z'⟩
        · exact .inl q
        · refine .inr ⟨k, c', e, z'.sameBut hs ?_⟩
          rintro rfl
          exact hj (nodup_ix hN e1 (I.ok.inj _ _ _ e hc ▸ hi))
    · by_cases hcc : c' = c
      · subst hcc; exact ⟨_, hc'⟩
      · obtain ⟨w2, z2⟩ := I.cell y c' e
        exact ⟨w2, z2.sameBut hs hcc⟩
    · obtain ⟨e, n, ne, nf, d⟩ := I.pin p hp
      refine ⟨(hs.2 p.1 ?_).trans e, n, ne, nf, d⟩
      intro q
      rw [q, hoc] at e
      have q' : oc = p.2 := Option.some.inj e
      exact d w' (by rw [← q']; exact hocd)
theorem store_ok {M : Model} {A : Around} {E : Value → Shared → Prop} {i : Nat} {x : Str} {v : V} {u : Value} {Q : Unit → Shared → Prop} (I : Inv X pins σ H s) (hN : X.N.Nodup) (hi : X.N[i]? = some x) (hx : Loc X.env.scope x) (r : RelV v u)
    (h : ∀ s', Inv X pins (σ.set i (some v)) H s' → Q () s') (hf : X.fn x = true ∨ X.env.scope.names.lookup x = some .local := by first | exact .inl rfl | exact .inr rfl | assumption) : wpAny M A (storeName X.env x u) Q E s :=
  store_ok2 I hN hi hx r (fun s' I' _ => h s' I') hf
/-- behind a call or a block, the state as it is -/
theorem Inv.call' {s' : Shared} {ch : List Addr} (I : Inv X pins σ H s) (ho : s'.os = s.os) (u : Un (frs X.stack) ch H H' s.heap s'.heap) (hok : HOk X.prog X.w H' s'.heap) (hg : AllBare s'.gens)
    (hch : ∀ b ∈ ch, (b ∈ X.ex ∨ X.s₀.heap.objs.size ≤ b) ∧ b ≠ X.env.locals ∧ (∀ x c, X.env.cells.lookup x = some c → c ≠ b) ∧ ∀ p ∈ X.pn ++ pins, p.1 ≠ b) : Inv X pins σ H' s' := by
  obtain ⟨h', g', d', t', o'⟩ := s'
  have e : o' = s.os := ho
  subst e
  exact I.call (g' := g') (t' := t') (d' := d') u hok hg hch
end

/-! ### the judgements -/
/-- an exception: its class, its own dict's address (where it has one), the abstract heap behind it -/
abbrev XK := Value → Option Addr → Hp → Prop
abbrev St := List (Option V)
abbrev VK := V → Hp → Prop
/-- an expression's reading; a test's; an argument list's -/
abbrev TE := St → Hp → VK → Prop
abbrev TT := St → Hp → (Bool → Hp → Prop) → Prop
abbrev TA := St → Hp → (List V → Hp → Prop) → Prop
/-- what is wanted behind a statement -/
structure Ends where
  nx : St → Hp → Prop
  rt : VK
  bk : St → Hp → Prop := fun _ _ => False
  ct : St → Hp → Prop := fun _ _ => False
abbrev TS := Ends → St → Hp → Prop

def EP (X : Cx) (pins : List (Addr × Obj)) (σ : St) (Q : VK) (u : Value) (s' : Shared) : Prop := ∃ v H', Inv X pins σ H' s' ∧ RelV v u ∧ Q v H'
def TP (X : Cx) (pins : List (Addr × Obj)) (σ : St) (Q : Bool → Hp → Prop) (b : Bool) (s' : Shared) : Prop := ∃ H', Inv X pins σ H' s' ∧ Q b H'
def AP (X : Cx) (pins : List (Addr × Obj)) (σ : St) (Q : List V → Hp → Prop) (us : List Value) (s' : Shared) : Prop := ∃ vs H', Inv X pins σ H' s' ∧ Vals vs us ∧ Q vs H'
def SP (X : Cx) (pins : List (Addr × Obj)) (D : Ends) (f : Flow) (s' : Shared) : Prop :=
  match f with
  | .next => ∃ σ' H', Inv X pins σ' H' s' ∧ D.nx σ' H'
  | .brk => ∃ σ' H', Inv X pins σ' H' s' ∧ D.bk σ' H'
  | .cont => ∃ σ' H', Inv X pins σ' H' s' ∧ D.ct σ' H'
  | .ret u => ∃ v σ' H', Inv X pins σ' H' s' ∧ RelV v u ∧ D.rt v H'

def PE (X : Cx) (e : Expr) (t : TE) : Prop :=
  ∀ (pins : List (Addr × Obj)) (s : Shared) (σ : St) (H : Hp) (Q : VK), Inv X pins σ H s → t σ H Q → wpAny (model X.prog X.w) X.A (eval e X.env) (EP X pins σ Q) X.xe s
def PT (X : Cx) (e : Expr) (t : TT) : Prop :=
  ∀ (pins : List (Addr × Obj)) (s : Shared) (σ : St) (H : Hp) (Q : Bool → Hp → Prop), Inv X pins σ H s → t σ H Q → wpAny (model X.prog X.w) X.A (isTrue e X.env (eval e X.env)) (TP X pins σ Q) X.xe s
/-- a test whatever its 'whole' is (and, or) -/
def PW (X : Cx) (e : Expr) (t : TT) : Prop :=
  ∀ (whole : Sem Value) (pins : List (Addr × Obj)) (s : Shared) (σ : St) (H : Hp) (Q : Bool → Hp → Prop), Inv X pins σ H s → t σ H Q → wpAny (model X.prog X.w) X.A (isTrue e X.env whole) (TP X pins σ Q) X.xe s
theorem PW.pt {X : Cx} {e : Expr} {t : TT} (h : PW X e t) : PT X e t := h _
/-- an argument list (no star), from the left -/
def PA (X : Cx) (es : List Expr) (t : TA) : Prop :=
  ∀ (pos : Pos) (pins : List (Addr × Obj)) (s : Shared) (σ : St) (H : Hp) (Q : List V → Hp → Prop), Inv X pins σ H s → t σ H Q → wpAny (model X.prog X.w) X.A (spliced (backTo pos (starEach es X.env))) (AP X pins σ Q) X.xe s
def PS (X : Cx) (st : Stmt) (t : TS) : Prop :=
  ∀ (pins : List (Addr × Obj)) (s : Shared) (σ : St) (H : Hp) (D : Ends), Inv X pins σ H s → t D σ H → wpAny (model X.prog X.w) X.A (exec st X.env) (SP X pins D) X.xe s
def PSs (X : Cx) (st : List Stmt) (t : TS) : Prop :=
  ∀ (pins : List (Addr × Obj)) (s : Shared) (σ : St) (H : Hp) (D : Ends), Inv X pins σ H s → t D σ H → wpAny (model X.prog X.w) X.A (execs st X.env) (SP X pins D) X.xe s
/-- weaken the end -/
theorem thn {α : Type} {t : Sem α} {Q Q' : α → Shared → Prop} {M : Model} {A : Around} {E : Value → Shared → Prop} {s : Shared} (h : wpAny M A t Q E s) (hQ : ∀ a s, Q a s → Q' a s) : wpAny M A t Q' E s := wpAny_mono h hQ fun _ _ x => x
end L2

namespace L2
open PySem PySem.Spec PyProof.Rows
section
variable {X : Cx}

/-! ### names and constants -/
def tVar (i : Nat) : TE := fun σ H Q => ∃ v, σ[i]? = some (some v) ∧ Q v H
def tC (v : V) : TE := fun _ H Q => Q v H
theorem pe_var {i : Nat} {x : Str} {pos : Pos} (hN : X.N[i]? = some x) (hv : Vis X.env.scope x) (hd : (x == ("__debug__" : Str)) = false := by decide) (hcd : (x == ("__classdict__" : Str)) = false := by decide) : PE X (.Name x pos) (tVar i) := by
  intro pins s σ H Q I h
  obtain ⟨v, e, h⟩ := h
  obtain ⟨m, hn, hl⟩ := I.loc
  obtain ⟨u, r, l⟩ := hl i x v hN e hv
  have fin : EP X pins σ Q u s := ⟨v, H, I, r, h⟩
  rcases l with ⟨hk, hm⟩ | ⟨hk, c, hc, hcell⟩
  · exact wpAny_Name (wpAny_loadName_local I.ok.kind hk hn hm fin) hd
  · rcases hk with hk | hk
    · exact wpAny_Name (wpAny_loadName_cell I.ok.kind hk hc hcell fin) hd
    · exact wpAny_Name (wpAny_loadName_free I.ok.kind hk hc hcell fin hcd) hd
theorem pe_int {i j pos} : PE X (.Constant (.int i) j pos) (tC (.int i)) := fun _ _ _ H _ I h => wpAny_Constant_int ⟨.int i, H, I.tok _, ⟨_, rfl⟩, h⟩
theorem pe_bl {b j pos} : PE X (.Constant (.bool b) j pos) (tC (.bl b)) := fun _ _ _ H _ I h => Constant_bool ⟨.bl b, H, I, rfl, h⟩
theorem pe_non {j pos} : PE X (.Constant .none j pos) (tC .non) := fun _ _ _ H _ I h => Constant_none ⟨.non, H, I, rfl, h⟩
/-- a global name of the def -/
def Gl (X : Cx) (x : Str) : Prop := X.env.kindOf x = some .globalImplicit
theorem ld_glob {E : Value → Shared → Prop} {pins : List (Addr × Obj)} {s : Shared} {σ : St} {H : Hp} {x : Str} {u : Value} {pos : Pos} {Q : Value → Shared → Prop} (I : Inv X pins σ H s) (hg : Gl X x) (hm : X.mg x = some u) (h : Q u s)
    (hd : (x == ("__debug__" : Str)) = false := by decide) : wpAny (model X.prog X.w) X.A (eval (.Name x pos) X.env) Q E s :=
  Calls.Name_function_global I.ok.kind hg (Calls.loadGlobal_global (by rw [I.ok.glob]; exact I.mod.glob.keeps I.bk) hm h) hd
theorem ld_blt {E : Value → Shared → Prop} {pins : List (Addr × Obj)} {s : Shared} {σ : St} {H : Hp} {x : Str} {u : Value} {pos : Pos} {Q : Value → Shared → Prop} (I : Inv X pins σ H s) (hg : Gl X x) (hm : X.mg x = none) (hv : bootBuiltins x = some u) (h : Q u s)
    (hn : x ≠ "__name__" := by decide) (hd : (x == ("__debug__" : Str)) = false := by decide) : wpAny (model X.prog X.w) X.A (eval (.Name x pos) X.env) Q E s := by
  obtain ⟨mb, h1, h2⟩ := I.mod.blt
  exact Calls.Name_function_global I.ok.kind hg (Calls.loadGlobal_builtin (by rw [I.ok.glob]; exact I.mod.glob.keeps I.bk) hm (by rw [I.ok.blt]; exact h1.keeps I.bk) ((h2 x hn).trans hv) h) hd
theorem pe_bltn {x : Str} {v : V} {u : Value} {pos : Pos} (hg : Gl X x) (hm : X.mg x = none) (hv : bootBuiltins x = some u) (r : RelV v u) (hn : x ≠ "__name__" := by decide) (hd : (x == ("__debug__" : Str)) = false := by decide) : PE X (.Name x pos) (tC v) :=
  fun _ _ _ H _ I h => ld_blt I hg hm hv ⟨v, H, I, r, h⟩ hn hd

/-! ### arithmetic -/
variable {a b : Expr} {ta tb : TE} {pos : Pos}
/-! ### comparisons -/
/-- a comparison as a value, as a test -/
def tB (t : TE) : TT := fun σ H Q => t σ H fun x H1 => ∃ c, x = .bl c ∧ Q c H1
/-- an expression whose value is a bool, as a test -/
theorem pt_val {e : Expr} {t : TE} (h : PE X e t) (he : ∀ whole, isTrue e X.env whole = (do let v ← whole; standAt e.pos; holding [v] (truthy v)) := by intro _; rfl) : PT X e (tB t) := by
  intro pins s σ H Q I hw
  refine isTrue_plain (thn (h pins s σ H _ I hw) fun v s1 ⟨x, H1, I1, r1, q1⟩ => ?_) (he _)
  obtain ⟨d, rfl, q⟩ := q1
  cases r1
  exact wpAny_truthy_bool ⟨H1, I1, q⟩

/-! ### and, or, not -/
variable {tA tB' : TT} {rest : List Expr}
def tAnd (t u : TT) : TT := fun σ H Q => t σ H fun c H1 => if c = true then u σ H1 Q else Q false H1
def tOr (t u : TT) : TT := fun σ H Q => t σ H fun c H1 => if c = true then Q true H1 else u σ H1 Q
def tNot (t : TT) : TT := fun σ H Q => t σ H fun c H1 => Q (!c) H1
theorem pw_and1 (ha : PT X a tA) : PW X (.BoolOp .And [a] pos) tA := by
  intro wh pins s σ H Q I h
  refine isTrue_and (thn (ha pins s σ H Q I h) fun c s1 e => ?_)
  cases c with
  | true => exact isTrue_and_nil e
  | false => exact e
theorem pw_or1 (ha : PT X a tA) : PW X (.BoolOp .Or [a] pos) tA := by
  intro wh pins s σ H Q I h
  refine isTrue_or (thn (ha pins s σ H Q I h) fun c s1 e => ?_)
  cases c with
  | false => exact isTrue_or_nil e
  | true => exact e
theorem pw_and (ha : PT X a tA) (hb : PW X (.BoolOp .And (b :: rest) pos) tB') : PW X (.BoolOp .And (a :: b :: rest) pos) (tAnd tA tB') := by
  intro wh pins s σ H Q I h
  refine isTrue_and (thn (ha pins s σ H _ I h) fun c s1 ⟨H1, I1, q1⟩ => ?_)
  cases c with
  | true => exact hb wh pins s1 σ H1 Q I1 q1
  | false => exact ⟨H1, I1, q1⟩
theorem pw_or (ha : PT X a tA) (hb : PW X (.BoolOp .Or (b :: rest) pos) tB') : PW X (.BoolOp .Or (a :: b :: rest) pos) (tOr tA tB') := by
  intro wh pins s σ H Q I h
  refine isTrue_or (thn (ha pins s σ H _ I h) fun c s1 ⟨H1, I1, q1⟩ => ?_)
  cases c with
  | true => exact ⟨H1, I1, q1⟩
  | false => exact hb wh pins s1 σ H1 Q I1 q1
theorem pt_not (ha : PT X a tA) : PT X (.UnaryOp .Not a pos) (tNot tA) := by
  intro pins s σ H Q I h
  exact isTrue_not (ha pins s σ H (fun c H1 => Q (!c) H1) I h)
/-- .. as values (bools) -/
def tAndV (ta tb : TE) : TE := fun σ H Q => ta σ H fun x H1 => ∃ c, x = .bl c ∧ if c = true then tb σ H1 Q else Q (.bl false) H1
def tOrV (ta tb : TE) : TE := fun σ H Q => ta σ H fun x H1 => ∃ c, x = .bl c ∧ if c = true then Q (.bl true) H1 else tb σ H1 Q
def tNotV (ta : TE) : TE := fun σ H Q => ta σ H fun x H1 => ∃ c, x = .bl c ∧ Q (.bl (!c)) H1
theorem pe_one {op} {t : TE} (h : PE X a t) : PE X (.BoolOp op [a] pos) t := fun pins s σ H Q I hw => BoolOp_one (h pins s σ H Q I hw)
theorem pe_and (ha : PE X a ta) (hb : PE X (.BoolOp .And (b :: rest) pos) tb) : PE X (.BoolOp .And (a :: b :: rest) pos) (tAndV ta tb) := by
  intro pins s σ H Q I h
  refine BoolOp_and (thn (ha pins s σ H _ I h) fun v s1 ⟨x, H1, I1, r1, q1⟩ => ?_)
  obtain ⟨c, rfl, q1⟩ := q1
  cases r1
  refine wpAny_truthy_bool ?_
  cases c with
  | true => exact hb pins s1 σ H1 Q I1 q1
  | false => exact ⟨.bl false, H1, I1, rfl, q1⟩
theorem pe_or (ha : PE X a ta) (hb : PE X (.BoolOp .Or (b :: rest) pos) tb) : PE X (.BoolOp .Or (a :: b :: rest) pos) (tOrV ta tb) := by
  intro pins s σ H Q I h
  refine BoolOp_or (thn (ha pins s σ H _ I h) fun v s1 ⟨x, H1, I1, r1, q1⟩ => ?_)
  obtain ⟨c, rfl, q1⟩ := q1
  cases r1
  refine wpAny_truthy_bool ?_
  cases c with
  | false => exact hb pins s1 σ H1 Q I1 q1
  | true => exact ⟨.bl true, H1, I1, rfl, q1⟩
theorem pe_not (ha : PE X a ta) : PE X (.UnaryOp .Not a pos) (tNotV ta) := by
  intro pins s σ H Q I h
  refine UnaryOp_ (thn (ha pins s σ H _ I h) fun v s1 ⟨x, H1, I1, r1, q1⟩ => ?_)
  obtain ⟨c, rfl, q1⟩ := q1
  cases r1
  exact not_of (wpAny_truthy_bool ⟨.bl (!c), H1, I1, rfl, q1⟩)
end
end L2

namespace L2
open PySem PySem.Spec PyProof.Rows

/-! ### a list, a tuple that is read: tracked, frozen, or an object of the module -/
def SqL (K : PySem.W.Frag) (H : Hp) (a : Addr) (xs : List V) : Prop :=
  Rd H a (.lst xs) ∨
    ∃ (o : Obj) (its : Array Value) (n : Nat), K.lookup a = some o ∧ o.cls = .type "list" ∧ o.dict = none ∧ o.data = .seq its n ∧ its.size ≤ sizeLine ∧ Vals xs its.toList
def SqT (K : PySem.W.Frag) (H : Hp) (a : Addr) (xs : List V) : Prop :=
  Rd H a (.tup xs) ∨
    ∃ (o : Obj) (its : Array Value) (n : Nat), K.lookup a = some o ∧ o.cls = .type "tuple" ∧ o.data = .seq its n ∧ its.size ≤ sizeLine ∧ Vals xs its.toList
def absV : Value → Option V
  | .none => some .non
  | .bool b => some (.bl b)
  | .int i _ => some (.int i)
  | .str x _ => some (.str x)
  | .bytes b _ => some (.byt b)
  | .float b _ => some (.flt b)
  | .ref a => some (.ref a)
  | .type n => some (.ty n)
  | _ => none
theorem RelV.abs {x : V} {u : Value} (r : RelV x u) : absV u = some x := by
  cases x with
  | non => cases r; rfl
  | bl _ => cases r; rfl
  | int _ => obtain ⟨t, rfl⟩ := r; rfl
  | str _ => obtain ⟨t, rfl⟩ := r; rfl
  | byt _ => obtain ⟨t, rfl⟩ := r; rfl
  | flt _ => obtain ⟨t, rfl⟩ := r; rfl
  | ref _ => cases r; rfl
  | ty _ => cases r; rfl
theorem RelV.inj {x y : V} {u : Value} (r : RelV x u) (q : RelV y u) : x = y := Option.some.inj (r.abs.symm.trans q.abs)
theorem Vals.inj : ∀ {xs ys : List V} {us : List Value}, Vals xs us → Vals ys us → xs = ys
  | _, _, _, .nil, .nil => rfl
  | _, _, _, .cons r t, .cons r' t' => by rw [r.inj r', Vals.inj t t']
section
variable {X : Cx} {pins : List (Addr × Obj)} {σ : St} {H : Hp} {s : Shared} {a : Addr} {xs ys : List V}
theorem SqL.of {K : PySem.W.Frag} (h : H a = some (.lst xs)) : SqL K H a xs := .inl (.inl h)
theorem SqT.of {K : PySem.W.Frag} (h : H a = some (.tup xs)) : SqT K H a xs := .inl (.inl h)
theorem Inv.list (I : Inv X pins σ H s) (h : SqL X.K H a xs) : ∃ its : List Value, Vals xs its ∧ PlainL s.heap a its.toArray ∧ xs.length ≤ sizeLine := by
  rcases h with h | ⟨o, its, n, hk, hc, hd, hs, hz, r⟩
  · obtain ⟨z, its, n, r, e⟩ := h.ok I.hok
    exact ⟨its, r, ⟨_, n, e, rfl, rfl, rfl⟩, z⟩
  · refine ⟨its.toList, r, ⟨o, n, I.kIn a o hk, hc, hd, by simpa using hs⟩, ?_⟩
    have e := r.length
    simp only [Array.length_toList] at e
    omega
theorem Inv.tuple (I : Inv X pins σ H s) (h : SqT X.K H a xs) : ∃ its : List Value, Vals xs its ∧ IsTup s.heap a its.toArray ∧ xs.length ≤ sizeLine := by
  rcases h with h | ⟨o, its, n, hk, hc, hs, hz, r⟩
  · obtain ⟨z, its, r, p⟩ := h.ok I.hok
    exact ⟨its, r, p, z⟩
  · refine ⟨its.toList, r, ⟨o, I.kIn a o hk, hc, n, by simpa using hs⟩, ?_⟩
    have e := r.length
    simp only [Array.length_toList] at e
    omega
theorem Inv.list_inj (I : Inv X pins σ H s) (h : SqL X.K H a xs) (h' : SqL X.K H a ys) : xs = ys := by
  obtain ⟨its, r, ⟨o, n, e, _, _, d⟩, _⟩ := I.list h
  obtain ⟨its', r', ⟨o', n', e', _, _, d'⟩, _⟩ := I.list h'
  rw [e] at e'; cases e'
  rw [d] at d'
  injection d' with d1 _
  have : its = its' := by simpa using congrArg Array.toList d1
  subst this
  exact r.inj r'
end

/-! ### another wish about exceptions -/
abbrev Cx.wish (X : Cx) (E : Value → Shared → Prop) : Cx := { X with xe := E }
/-- no exception leaves -/
abbrev Cx.nox (X : Cx) : Cx := X.wish fun _ _ => False
theorem Cx.Ok.wish {X : Cx} (ok : X.Ok) (E : Value → Shared → Prop) : (X.wish E).Ok :=
  ⟨ok.mod, ok.kind, ok.glob, ok.blt, ok.above, ok.inj, ok.has, ok.cab, ok.hd, ok.frames, ok.stk, ok.exf, ok.bs, ok.bsz, ok.noex, ok.exfs, ok.funs, ok.frf⟩
theorem Cx.Ok.unwish {X : Cx} {E : Value → Shared → Prop} (ok : (X.wish E).Ok) : X.Ok :=
  ⟨ok.mod, ok.kind, ok.glob, ok.blt, ok.above, ok.inj, ok.has, ok.cab, ok.hd, ok.frames, ok.stk, ok.exf, ok.bs, ok.bsz, ok.noex, ok.exfs, ok.funs, ok.frf⟩
section
variable {X : Cx} {pins : List (Addr × Obj)} {σ : St} {H : Hp} {s : Shared} {E : Value → Shared → Prop}
theorem Inv.wish (I : Inv X pins σ H s) (E : Value → Shared → Prop) : Inv (X.wish E) pins σ H s := ⟨I.ok.wish E, I.os, I.bare, I.base, I.loc, I.cell, I.free, I.freeC, I.pin, I.hok, I.len⟩
theorem Inv.unwish (I : Inv (X.wish E) pins σ H s) : Inv X pins σ H s := ⟨I.ok.unwish, I.os, I.bare, I.base, I.loc, I.cell, I.free, I.freeC, I.pin, I.hok, I.len⟩
theorem SP.unwish {D : Ends} {f : Flow} {s' : Shared} (h : SP (X.wish E) pins D f s') : SP X pins D f s' := by
  cases f with
  | next => obtain ⟨σ', H', I, q⟩ := h; exact ⟨σ', H', I.unwish, q⟩
  | brk => obtain ⟨σ', H', I, q⟩ := h; exact ⟨σ', H', I.unwish, q⟩
  | cont => obtain ⟨σ', H', I, q⟩ := h; exact ⟨σ', H', I.unwish, q⟩
  | ret u => obtain ⟨v, σ', H', I, r, q⟩ := h; exact ⟨v, σ', H', I.unwish, r, q⟩
theorem PSs.nox {st : List Stmt} {t : TS} (h : PSs X.nox st t) : PSs X st t := fun pins s σ H D I hw =>
  wpAny_mono (h pins s σ H D (I.wish _) hw) (fun _ _ q => q.unwish) fun _ _ z => False.elim z
end

/-! ### blocks and small statements -/
section
variable {X : Cx} {st : Stmt} {rest : List Stmt} {t u : TS} {e : Expr} {te : TE} {pos : Pos}
def tNext : TS := fun D σ H => D.nx σ H
def tSeq (t u : TS) : TS := fun D σ H => t { D with nx := u D } σ H
theorem pss_nil : PSs X [] tNext := fun _ _ σ H _ I h => wpAny_execs_nil ⟨σ, H, I, h⟩
theorem pss_cons (h1 : PS X st t) (h2 : PSs X rest u) : PSs X (st :: rest) (tSeq t u) := by
  intro pins s σ H D I h
  refine wpAny_execs_cons (thn (h1 pins s σ H { D with nx := u D } I h) fun f s1 q => ?_)
  cases f with
  | next =>
    obtain ⟨σ', H', I', q⟩ := q
    exact h2 pins s1 σ' H' D I' q
  | ret v => exact q
  | brk => exact q
  | cont => exact q
theorem pss_one (h1 : PS X st t) : PSs X [st] t := by
  intro pins s σ H D I h
  refine wpAny_execs_cons (thn (h1 pins s σ H D I h) fun f s1 q => ?_)
  cases f with
  | next => exact wpAny_execs_nil q
  | ret v => exact q
  | brk => exact q
  | cont => exact q
/-- in a def's body nothing is shown -/
theorem Inv.quiet {pins : List (Addr × Obj)} {σ : St} {H : Hp} {s : Shared} (I : Inv X pins σ H s) : interactive X.env = false := by simp [interactive, I.ok.kind]
/-- an expression whose value is dropped -/
def tDrop (te : TE) : TS := fun D σ H => te σ H fun _ H1 => D.nx σ H1
theorem ps_expr (he : PE X e te) (hs : swapsWith e none pos.line X.env = pure false := by rfl) : PS X (.Expr e pos) (tDrop te) := by
  intro pins s σ H D I h
  exact wpAny_Expr_any (thn (he pins s σ H _ I h) fun v s1 ⟨x, H1, I1, r1, q1⟩ => ⟨σ, H1, I1, q1⟩) I.quiet hs
def tRet (te : TE) : TS := fun D σ H => te σ H D.rt
theorem ps_ret (he : PE X e te) : PS X (.Return (some e) pos) (tRet te) := by
  intro pins s σ H D I h
  exact wpAny_Return_some (thn (he pins s σ H _ I h) fun v s1 ⟨x, H1, I1, r1, q1⟩ => ⟨x, σ, H1, I1, r1, q1⟩)
def tIfS (c : TT) (t u : TS) : TS := fun D σ H => c σ H fun b H1 => if b = true then t D σ H1 else u D σ H1
theorem ps_if {c : Expr} {a b : List Stmt} {tc : TT} (hc : PT X c tc) (ha : PSs X a t) (hb : PSs X b u) : PS X (.If c a b pos) (tIfS tc t u) := by
  intro pins s σ H D I h
  refine wpAny_If (thn (hc pins s σ H _ I h) fun d s1 ⟨H1, I1, q1⟩ => ?_)
  cases d with
  | true => exact ha pins s1 σ H1 D I1 q1
  | false => exact hb pins s1 σ H1 D I1 q1
/-- code that the proof never comes to -/
def tNever : TS := fun _ _ _ => False
theorem ps_never : PS X st tNever := fun _ _ _ _ _ _ h => h.elim
end

/-! ### targets -/
abbrev TG := V → St → Hp → (St → Hp → Prop) → Prop
abbrev TGs := List V → St → Hp → (St → Hp → Prop) → Prop
def PG (X : Cx) (target : Expr) (t : TG) : Prop :=
  ∀ (pins : List (Addr × Obj)) (s : Shared) (σ : St) (H : Hp) (v : V) (u : Value) (Q : St → Hp → Prop), Inv X pins σ H s → RelV v u → t v σ H Q →
    wpAny (model X.prog X.w) X.A (assign target X.env u) (fun _ s' => ∃ σ' H', Inv X pins σ' H' s' ∧ Q σ' H') X.xe s
/-- several targets, one after another -/
def PGs (X : Cx) (ts : List Expr) (t : TGs) : Prop :=
  ∀ (pins : List (Addr × Obj)) (s : Shared) (σ : St) (H : Hp) (vs : List V) (us : List Value) (Q : St → Hp → Prop), Inv X pins σ H s → Vals vs us → t vs σ H Q →
    wpAny (model X.prog X.w) X.A (assignInOrder ((assignEach ts X.env).map (·.2)) us) (fun _ s' => ∃ σ' H', Inv X pins σ' H' s' ∧ Q σ' H') X.xe s
/-- o[i] = v, by values -/
abbrev TSet := V → V → V → Hp → (Hp → Prop) → Prop
def PSet (X : Cx) (t : TSet) : Prop :=
  ∀ (pins : List (Addr × Obj)) (s : Shared) (σ : St) (H : Hp) (o i v : V) (ov iv u : Value) (Q : Hp → Prop), Inv X pins σ H s → RelV o ov → RelV i iv → RelV v u → t o i v H Q →
    wpAny (model X.prog X.w) X.A (setItem ov iv u) (fun _ s' => ∃ H', Inv X pins σ H' s' ∧ Q H') X.xe s
section
variable {X : Cx} {pos : Pos}
def gName (i : Nat) : TG := fun v σ H Q => Q (σ.set i (some v)) H
theorem pg_name {i : Nat} {x : Str} (hN : X.N.Nodup) (hi : X.N[i]? = some x) (hx : Loc X.env.scope x) (hf : X.fn x = true ∨ X.env.scope.names.lookup x = some .local := by first | exact .inl rfl | exact .inr rfl | assumption) : PG X (.Name x pos) (gName i) := by
  intro pins s σ H v u Q I r h
  exact wpAny_assign_Name (store_ok I hN hi hx r (fun s' I' => ⟨_, H, I', h⟩) hf)
def gNil : TGs := fun vs σ H Q => vs = [] ∧ Q σ H
def gCons (t : TG) (u : TGs) : TGs := fun vs σ H Q => ∃ v r, vs = v :: r ∧ t v σ H fun σ' H' => u r σ' H' Q
theorem pgs_nil : PGs X [] gNil := by
  intro pins s σ H vs us Q I r h
  obtain ⟨e, h⟩ := h
  subst e
  cases r
  exact assignInOrder_nil ⟨σ, H, I, h⟩
theorem pgs_cons {e : Expr} {es : List Expr} {t : TG} {u : TGs} (h1 : PG X e t) (h2 : PGs X es u)
    (hs : (assignEach (e :: es) X.env).map (·.2) = assign e X.env :: (assignEach es X.env).map (·.2) := by rfl) : PGs X (e :: es) (gCons t u) := by
  intro pins s σ H vs us Q I r h
  obtain ⟨v, vr, e1, h⟩ := h
  subst e1
  cases r with
  | cons r rr =>
    rw [hs]
    refine assignInOrder_cons (thn (h1 pins s σ H _ _ _ I r h) fun _ s1 ⟨σ1, H1, I1, q1⟩ => ?_)
    exact h2 pins s1 σ1 H1 _ _ Q I1 rr q1
/-- (a, b, ..) = a tuple of that length -/
def gTup (K : PySem.W.Frag) (n : Nat) (t : TGs) : TG := fun v σ H Q => ∃ a xs, v = .ref a ∧ SqT K H a xs ∧ xs.length = n ∧ t xs σ H Q
theorem pg_tup {es : List Expr} {k : Nat} {t : TGs} {n : Nat} (hc : X.calm = true) (h : PGs X es t)
    (hn : (assignEach es X.env).length = n := by rfl) (hst : (assignEach es X.env).findIdx? (·.1) = none := by rfl) : PG X (.Tuple es k pos) (gTup X.K n t) := by
  intro pins s σ H v u Q I r hw
  obtain ⟨a, xs, e1, hq, hl, hw⟩ := hw
  subst e1
  cases r
  obtain ⟨its, rv, ht, hz⟩ := I.tuple hq
  refine assign_Tuple_tuple (I.ok.hd hc) ht (by simp [hn, ← hl, rv.length]) hst fun h' hx => ?_
  have I1 : Inv X pins σ H { s with heap := h' } := I.kept (t' := s.toks) fun b o e => hx b o (Nat.ne_of_lt (Heap.lt_size e)) e
  exact h pins _ σ H xs _ Q I1 (by simpa using rv) hw
/-- o[i] = .. -/
def gSub (to ti : TE) (t : TSet) : TG := fun v σ H Q => to σ H fun o H1 => ti σ H1 fun i H2 => t o i v H2 fun H3 => Q σ H3
theorem pg_sub {o i : Expr} {to ti : TE} {t : TSet} (ho : PE X o to) (hi : PE X i ti) (hs : PSet X t)
    (ha : ∀ v, assign (.Subscript o i pos) X.env v = (do
      let ov ← holding [v] (eval o X.env)
      let iv ← holding [v, ov] (eval i X.env)
      standAt pos
      holding [v, ov, iv] (setItem ov iv v)
      release [v, ov, iv] []) := by intro _; rfl) : PG X (.Subscript o i pos) (gSub to ti t) := by
  intro pins s σ H v u Q I r h
  rw [ha]
  refine wpAny_bind (wpAny_holding (thn (ho pins s σ H _ I h) fun ov s1 ⟨x, H1, I1, r1, q1⟩ => ?_))
  refine wpAny_bind (wpAny_holding (thn (hi pins s1 σ H1 _ I1 q1) fun iv s2 ⟨y, H2, I2, r2, q2⟩ => ?_))
  refine wpAny_bind (wpAny_standAt (wpAny_bind (wpAny_holding (thn (hs pins s2 σ H2 x y v ov iv u _ I2 r1 r2 r q2) fun _ s3 ⟨H3, I3, q3⟩ => ?_))))
  exact wpAny_release ⟨σ, H3, I3, q3⟩
/-- target = value -/
def tAsg (te : TE) (g : TG) : TS := fun D σ H => te σ H fun x H1 => g x σ H1 D.nx
theorem ps_asg {tg e : Expr} {te : TE} {g : TG} (he : PE X e te) (hg : PG X tg g) (hs : swapsWithSole [tg] e pos.line X.env = pure false := by rfl) (hw : swappedStores [tg] e X.env = pure none := by rfl)
    (h1 : (assignEach [tg] X.env).map (·.2) = [assign tg X.env] := by rfl) : PS X (.Assign [tg] e pos) (tAsg te g) := by
  intro pins s σ H D I h
  refine wpAny_Assign_stores (thn (he pins s σ H _ I h) fun v s1 ⟨x, H1, I1, r1, q1⟩ => ?_) hs hw
  rw [h1]
  exact thn (hg pins s1 σ H1 x v _ I1 r1 q1) fun _ s2 q => q
/-- name = value -/
theorem ps_set {i : Nat} {x : Str} {e : Expr} {te : TE} {pos' : Pos} (hN : X.N.Nodup) (hi : X.N[i]? = some x) (hx : Loc X.env.scope x) (he : PE X e te) (hs : swapsWith e (some (.Name x pos')) pos.line X.env = pure false := by rfl) (hf : X.fn x = true ∨ X.env.scope.names.lookup x = some .local := by first | exact .inl rfl | exact .inr rfl | assumption) :
    PS X (.Assign [.Name x pos'] e pos) (tAsg te (gName i)) := by
  intro pins s σ H D I h
  refine wpAny_Assign_Name (thn (he pins s σ H _ I h) fun v s1 ⟨y, H1, I1, r1, q1⟩ => ?_) hs
  exact store_ok I1 hN hi hx r1 (fun s2 I2 => ⟨_, H1, I2, q1⟩) hf
end

/-! ### while -/
section
variable {X : Cx} {pos : Pos}
end

/-! ### what a loop or a comprehension walks -/
/-- at turn i: it yields x (the heap may grow), or it stops -/
structure It where
  go : Nat → Hp → Prop
  yld : Nat → Hp → V → Hp → Prop
  stop : Nat → Hp → Prop
/-- the iterator's own objects may turn: they are not the frame's, not pinned, younger than the entry (or a comprehension's own) -/
def FpOk (X : Cx) (pins : List (Addr × Obj)) (H : Hp) (b : Addr) : Prop :=
  H b = none ∧ b ≠ X.env.locals ∧ b ∉ X.fs ∧ (b ∈ X.ex ∨ X.s₀.heap.objs.size ≤ b) ∧ (∀ x c, X.env.cells.lookup x = some c → c ≠ b) ∧ ∀ p ∈ X.pn ++ pins, p.1 ≠ b
theorem Inv.fpOk {X : Cx} {pins : List (Addr × Obj)} {σ : St} {H H' : Hp} {s : Shared} {b : Addr} (I : Inv X pins σ H s) (hb : s.heap.objs.size ≤ b) (hn : H' b = none) : FpOk X pins H' b := by
  refine ⟨hn, Nat.ne_of_gt (Nat.lt_of_lt_of_le I.lt hb), I.nofs hb, .inr (Nat.le_trans I.sz hb), fun x c e z => ?_, fun p hp z => ?_⟩
  · obtain ⟨v, q⟩ := I.cell x c e
    exact absurd (Nat.lt_of_lt_of_le q.lt (by rw [z]; exact hb)) (Nat.lt_irrefl _)
  · exact absurd (Nat.lt_of_lt_of_le (Heap.lt_size (I.pin p hp).1) (by rw [z]; exact hb)) (Nat.lt_irrefl _)
structure Turn (P : Program) (w : World) (K : PySem.W.Frag) (tg : Expr) (J : It) (fp : List Addr) (it : Addr) (tn : Nat → Heap → Prop) : Prop where
  mem : it ∈ fp
  obj : ∀ i h, tn i h → ∀ b ∈ fp, ∃ o, h.get? b = some o ∧ ∀ v, o.data ≠ .cell v
  keep : ∀ i h h', tn i h → (∀ b ∈ fp, ∀ o, h.get? b = some o → h'.get? b = some o) → tn i h'
  item : ∀ (X : Cx), X.prog = P → X.w = w → X.K = K → X.calm = true → ∀ (i : Nat) (pins : List (Addr × Obj)) (s : Shared) (σ : St) (H : Hp) (E : Value → Shared → Prop), Inv X pins σ H s → (∀ b ∈ fp, FpOk X pins H b) → tn i s.heap → J.go i H →
    wpAny (model P w) X.A (pyNext (.ref it)) (fun r s1 => ∃ u, r = some u ∧
      wpAny (model P w) X.A (letOwnedTupleGo tg (.ref it) u) (fun _ s2 => ∃ x H', Inv X pins σ H' s2 ∧ RelV x u ∧ J.yld i H x H' ∧ tn (i + 1) s2.heap ∧ ∀ b ∈ fp, H' b = none) E s1) E s
  done : ∀ (X : Cx), X.prog = P → X.w = w → X.K = K → X.calm = true → ∀ (i : Nat) (pins : List (Addr × Obj)) (s : Shared) (σ : St) (H : Hp) (E : Value → Shared → Prop), Inv X pins σ H s → (∀ b ∈ fp, FpOk X pins H b) → tn i s.heap → J.stop i H →
    wpAny (model P w) X.A (pyNext (.ref it)) (fun r s1 => r = none ∧ Inv X pins σ H s1) E s
  self : ∀ (A : Around) (i : Nat) (s : Shared) (Q : Value → Shared → Prop) (E : Value → Shared → Prop), tn i s.heap → Q (.ref it) s → wpAny (model P w) A (pyIter (.ref it)) Q E s
abbrev TI := St → Hp → (It → Hp → Prop) → Prop
/-- an iterator has come -/
def PIE (X : Cx) (pins : List (Addr × Obj)) (σ : St) (tg : Expr) (R : It → Hp → Prop) (itv : Value) (s2 : Shared) : Prop :=
  ∃ (it : Addr) (fp : List Addr) (tn : Nat → Heap → Prop) (J : It) (H' : Hp), itv = .ref it ∧ Inv X pins σ H' s2 ∧ Turn X.prog X.w X.K tg J fp it tn ∧ tn 0 s2.heap ∧ (∀ b ∈ fp, FpOk X pins H' b) ∧ R J H'
def PI (X : Cx) (tg iter : Expr) (wi : TI) : Prop :=
  ∀ (pins : List (Addr × Obj)) (s : Shared) (σ : St) (H : Hp) (R : It → Hp → Prop), Inv X pins σ H s → wi σ H R →
    wpAny (model X.prog X.w) X.A (eval iter X.env) (fun v s1 => wpAny (model X.prog X.w) X.A (pyIter v) (PIE X pins σ tg R) X.xe s1) X.xe s

/-- the step ahead of the store is nothing for an iterator that keeps no tuple -/
theorem go_of {M : Model} {A : Around} {E : Value → Shared → Prop} {s : Shared} {tg : Expr} {it : Addr} {u : Value} {o : Obj} {n : String} {vs : Array Value} {Q : Unit → Shared → Prop} (ho : s.heap.get? it = some o) (hc : o.cls = .type n) (hd : o.data = .fields vs)
    (hn : ["enumerate", "zip", "dict_itemiterator", "dict_reverseitemiterator", "odict_iterator", "itertools.zip_longest", "itertools.pairwise"].contains n = false) (hQ : Q () s) : wpAny M A (letOwnedTupleGo tg (.ref it) u) Q E s := by
  unfold letOwnedTupleGo
  cases tg <;> first
    | exact wpAny_pure hQ
    | (cases u <;> first
        | exact wpAny_pure hQ
        | (refine wpAny_bind (wpAny_load ho ?_)
           rw [hc, hd]
           show wpAny M A (if (["enumerate", "zip", "dict_itemiterator", "dict_reverseitemiterator", "odict_iterator", "itertools.zip_longest", "itertools.pairwise"].contains n && vs[0]? == some (rawInt _)) = true then _ else _) Q E s
           rw [if_neg (by intro h; rw [hn, Bool.false_and] at h; cases h)]
           exact wpAny_pure hQ))

/-- the list at a, as it stands at each turn (a loop may append to it) -/
def Itl (K : PySem.W.Frag) (a : Addr) : It :=
  ⟨fun i H => ∃ xs x, SqL K H a xs ∧ xs[i]? = some x, fun i H x H' => H' = H ∧ ∀ xs, SqL K H a xs → xs[i]? = some x, fun i H => ∃ xs, SqL K H a xs ∧ xs.length ≤ i⟩
/-- lo, lo + 1, .. (n of them) -/
def Itr (lo : Int) (n : Nat) : It := ⟨fun i _ => i < n, fun i H x H' => H' = H ∧ x = .int (lo + i), fun i _ => n ≤ i⟩
theorem turn_list {P : Program} {w : World} {K : PySem.W.Frag} {tg : Expr} (a it : Addr) : Turn P w K tg (Itl K a) [it] it (fun i h => h.IsListIter it a i) where
  mem := by simp
  obj := fun i h st b hb => by
    have e : b = it := by simpa using hb
    subst e
    obtain ⟨o, e, c, d⟩ := st
    exact ⟨o, e, fun v z => by rw [d] at z; cases z⟩
  keep := fun i h h' st k => st.at fun o e => k it (by simp) o e
  item := by
    intro X hP hw hK hc i pins s σ H E I hf st hg
    subst hP hw hK
    obtain ⟨xs, x, hq, hx⟩ := hg
    obtain ⟨its, rv, p, hz⟩ := I.list hq
    obtain ⟨u, hu, ru⟩ := rv.get hx
    obtain ⟨f0, f1, f2, f3, f4, f5⟩ := hf it (by simp)
    refine wpAny_pyNext_list_item st p.isList (x := u) (by simpa using hu) fun h' st' sb => ?_
    have I1 : Inv X pins σ H { s with heap := h' } := I.turned (t' := s.toks) (fun b o hb e => (sb.2 b hb).trans e) f0 f1 f3 f4 f5
    obtain ⟨o, e, c, d⟩ := id st'
    exact ⟨u, rfl, go_of (s := { s with heap := h' }) e c d (by decide) ⟨x, H, I1, ru, ⟨rfl, fun ys hy => by rw [I.list_inj hy hq]; exact hx⟩, st', fun b hb => (hf b hb).1⟩⟩
  done := by
    intro X hP hw hK hc i pins s σ H E I hf st hg
    subst hP hw hK
    obtain ⟨xs, hq, hx⟩ := hg
    obtain ⟨its, rv, p, hz⟩ := I.list hq
    obtain ⟨f0, f1, f2, f3, f4, f5⟩ := hf it (by simp)
    have hl := rv.length
    exact wpAny_pyNext_list_end (I.ok.hd hc) st p.isList (by simp; omega) fun h' eb => ⟨rfl, I.turned (t' := s.toks) (fun b o hb e => eb b o hb e) f0 f1 f3 f4 f5⟩
  self := fun _ _ _ _ _ st h => wpAny_pyIter_listiter st h
theorem turn_range {P : Program} {w : World} {K : PySem.W.Frag} {tg : Expr} (it : Addr) (lo : Int) (n : Nat) : Turn P w K tg (Itr lo n) [it] it (fun i h => IsRangeIter h it (lo + (i : Nat) * 1) ((n : Int) - (i : Nat)) 1) where
  mem := by simp
  obj := fun i h st b hb => by
    have e : b = it := by simpa using hb
    subst e
    exact ⟨_, st, fun v z => by
      have z' : Data.fields _ = Data.cell v := z
      cases z'⟩
  keep := fun i h h' st k => k it (by simp) _ st
  item := by
    intro X hP hw hK hc i pins s σ H E I hf st hg
    subst hP hw hK
    obtain ⟨f0, f1, f2, f3, f4, f5⟩ := hf it (by simp)
    have W := Walks.range (prog := X.prog) (w := X.w) (I.ok.hd hc) it lo 1 n
    refine W.item i s _ _ hg st fun v h' tk hv st' kk => ?_
    obtain ⟨t, rfl⟩ := hv
    have I1 : Inv X pins σ H { s with heap := h', toks := tk } := I.turned (fun b o hb e => kk b o (by simpa using hb) e) f0 f1 f3 f4 f5
    refine ⟨_, rfl, go_of (s := { s with heap := h', toks := tk }) (n := "range_iterator") st' rfl rfl (by decide) ⟨.int (lo + i), H, I1, ⟨t, ?_⟩, ⟨rfl, rfl⟩, st', fun b hb => (hf b hb).1⟩⟩
    rw [Int.mul_one]
  done := by
    intro X hP hw hK hc i pins s σ H E I hf st hg
    subst hP hw hK
    obtain ⟨f0, f1, f2, f3, f4, f5⟩ := hf it (by simp)
    exact wpAny_pyNext_range_end (I.ok.hd hc) st (by have : n ≤ i := hg; omega) fun h' eb => ⟨rfl, I.turned (t' := s.toks) (fun b o hb e => eb b o hb e) f0 f1 f3 f4 f5⟩
  self := fun _ _ _ _ _ st h => wpAny_pyIter_rangeiter st h
end L2

namespace L2
open PySem PySem.Spec PyProof.Rows
section
variable {X : Cx} {tg : Expr}
def iList (K : PySem.W.Frag) (tl : TE) : TI := fun σ H R => tl σ H fun x H1 => ∃ a, x = .ref a ∧ (∃ xs, SqL K H1 a xs) ∧ R (Itl K a) H1
theorem pi_list {l : Expr} {tl : TE} (hl : PE X l tl) : PI X tg l (iList X.K tl) := by
  intro pins s σ H R I h
  refine thn (hl pins s σ H _ I h) fun v s1 ⟨x, H1, I1, r1, q1⟩ => ?_
  obtain ⟨a, e, ⟨xs, hq⟩, q⟩ := q1
  subst e
  cases r1
  obtain ⟨its, rv, p, hz⟩ := I1.list hq
  refine wpAny_pyIter_list p.isList ?_
  refine ⟨s1.heap.objs.size, [s1.heap.objs.size], _, _, H1, rfl, I1.kept (t' := s1.toks) fun b o e => Heap.get?_push_of_some _ e, turn_list a _, ⟨_, Heap.get?_push_size _ rfl, rfl, rfl⟩, fun b hb => ?_, q⟩
  have e : b = s1.heap.objs.size := by simpa using hb
  subst e
  exact I1.fpOk (Nat.le_refl _) (I1.hok.fresh (Nat.le_refl _))
/-- a range object just made, walked -/
theorem range_it {pins : List (Addr × Obj)} {σ : St} {H : Hp} {s : Shared} {R : It → Hp → Prop} {E : Value → Shared → Prop} {lo hi : Int} {t u v : Tok} {tk : Nat} (I : Inv X pins σ H s) (h1 : -(2 ^ 62) ≤ lo) (h2 : lo < 2 ^ 62) (h3 : -(2 ^ 62) ≤ hi) (h4 : hi < 2 ^ 62)
    (q : R (Itr lo (hi - lo).toNat) H) : wpAny (model X.prog X.w) X.A (pyIter (.ref s.heap.objs.size)) (PIE X pins σ tg R) E { s with heap := s.heap.push { cls := .type "range", data := .fields #[.int lo t, .int hi u, .int 1 v] }, toks := tk } := by
  refine wpAny_pyIter_range (IsRange.new ..) (small_one h1 h2 h3 h4) ?_
  have I1 : Inv X pins σ H { s with heap := s.heap.push { cls := .type "range", data := .fields #[.int lo t, .int hi u, .int 1 v] }, toks := tk } := I.kept fun b o e => Heap.get?_push_of_some _ e
  refine ⟨(s.heap.push { cls := .type "range", data := .fields #[.int lo t, .int hi u, .int 1 v] }).objs.size, [(s.heap.push { cls := .type "range", data := .fields #[.int lo t, .int hi u, .int 1 v] }).objs.size], _, _, H, rfl,
    I1.kept (t' := tk) fun b o e => Heap.get?_push_of_some _ e, turn_range _ lo (hi - lo).toNat, ?_, fun b hb => ?_, q⟩
  · have e1 : lo + ((0 : Nat) : Int) * 1 = lo := by simp
    have e2 : (((hi - lo).toNat : Nat) : Int) - ((0 : Nat) : Int) = Builtin.Range.rangeSize lo hi 1 := by rw [rangeSize_one]; split <;> omega
    show IsRangeIter _ _ (lo + ((0 : Nat) : Int) * 1) ((((hi - lo).toNat : Nat) : Int) - ((0 : Nat) : Int)) 1
    rw [e1, e2]
    exact Heap.get?_push_size _ rfl
  · have e : b = (s.heap.push { cls := .type "range", data := .fields #[.int lo t, .int hi u, .int 1 v] }).objs.size := by simpa using hb
    subst e
    exact I1.fpOk (Nat.le_refl _) (I1.hok.fresh (Nat.le_refl _))
def iRng1 (ta : TA) : TI := fun σ H R => ta σ H fun vs H1 => ∃ j : Int, vs = [.int j] ∧ -(2 ^ 62) ≤ j ∧ j < 2 ^ 62 ∧ R (Itr 0 j.toNat) H1
theorem pi_range1 {a : Expr} {ta : TA} {p pos : Pos} (hg : Gl X "range") (hm : X.mg "range" = none) (ha : PA X [a] ta) (hs : starEach [a] X.env = [(false, eval a X.env)] := by rfl) : PI X tg (.Call (.Name "range" p) [a] [] pos) (iRng1 ta) := by
  intro pins s σ H R I h
  refine Call_ (ld_blt I hg hm boot_range (PyProof.Rows.callWith_type1 (thn (ha pos pins s σ H _ I h) fun us s1 ⟨vs, H1, I1, r1, q1⟩ => ?_) hs rfl))
  obtain ⟨j, e, q1, q2, q⟩ := q1
  subst e
  cases r1 with
  | cons r rr =>
    cases rr
    obtain ⟨t, rfl⟩ := r
    exact call_range_1 (range_it I1 (by omega) (by omega) q1 q2 (by simpa using q))
/-! ### for -/
/-- W: the invariant by the turn and a measure; N: what the body is to reach -/
def tFor (wi : TI) (g : TG) (tb : TS) : TS := fun D σ H => wi σ H fun J H1 => ∃ W : Nat → Nat → St → Hp → Prop, (∃ m, W 0 m σ H1) ∧ ∀ i m σ H, W i m σ H →
  (J.stop i H ∧ D.nx σ H) ∨ (J.go i H ∧ ∃ N : St → Hp → Prop, (∀ σ' H', N σ' H' → ∃ m', m' < m ∧ W (i + 1) m' σ' H') ∧ ∀ x H', J.yld i H x H' → g x σ H' fun σ2 H2 => tb { D with nx := N, ct := N, bk := D.nx } σ2 H2)
/-- the records at fp as they stand -/
def pinsAt (fp : List Addr) (h : Heap) : List (Addr × Obj) := fp.filterMap fun b => (h.get? b).map fun o => (b, o)
theorem mem_pinsAt {fp : List Addr} {h : Heap} {b : Addr} {o : Obj} (hb : b ∈ fp) (e : h.get? b = some o) : (b, o) ∈ pinsAt fp h := List.mem_filterMap.mpr ⟨b, hb, by rw [e]; rfl⟩
theorem of_pinsAt {fp : List Addr} {h : Heap} {p : Addr × Obj} (hp : p ∈ pinsAt fp h) : p.1 ∈ fp ∧ h.get? p.1 = some p.2 := by
  obtain ⟨b, hb, e⟩ := List.mem_filterMap.mp hp
  cases q : h.get? b with
  | none => rw [q] at e; cases e
  | some o =>
    rw [q] at e
    have e' : (b, o) = p := Option.some.inj e
    subst e'
    exact ⟨hb, q⟩
theorem Inv.pinned {pins : List (Addr × Obj)} {σ : St} {H : Hp} {s : Shared} {fp : List Addr} (I : Inv X pins σ H s) (hf : ∀ b ∈ fp, FpOk X pins H b) (ho : ∀ b ∈ fp, ∃ o, s.heap.get? b = some o ∧ ∀ v, o.data ≠ .cell v) : Inv X (pins ++ pinsAt fp s.heap) σ H s :=
  I.pins_of fun p hp => (List.mem_append.mp hp).elim (fun z => I.pin p (List.mem_append_right _ z)) fun z => by
    obtain ⟨hb, e⟩ := of_pinsAt z
    obtain ⟨f0, f1, f2, _⟩ := hf p.1 hb
    obtain ⟨o, e', d⟩ := ho p.1 hb
    rw [e] at e'; cases e'
    exact ⟨e, f0, f1, f2, d⟩
theorem Inv.unpinned {pins pl : List (Addr × Obj)} {σ : St} {H : Hp} {s : Shared} (I : Inv X (pins ++ pl) σ H s) : Inv X pins σ H s := I.pins_of fun p hp => I.pin p (List.mem_append_right _ (List.mem_append_left _ hp))
theorem ps_for {iter : Expr} {body : List Stmt} {wi : TI} {g : TG} {tb : TS} {pos : Pos} (hp : PassesOwn (model X.prog X.w) X.A X.env X.xe) (hc : X.calm = true) (hi : PI X tg iter wi) (hg : PG X tg g) (hb : PSs X body tb)
    (hs : ∀ x, foldedSetIterable iter X.env x = pure x := by intro _; rfl) : PS X (.For tg iter body [] pos) (tFor wi g tb) := by
  intro pins s σ H D I h
  refine wpAny_For (thn (hi pins s σ H _ I h) fun v s1 h1 => thn h1 fun itv s2 h2 => ?_) hs
  obtain ⟨it, fp, tn, J, H2, e, I2, T, st2, f2, W, ⟨m0, w0⟩, turn⟩ := h2
  subst e
  -- what stays true of the iterator's objects through the loop
  have stat : ∀ {H' : Hp}, (∀ b ∈ fp, H' b = none) → ∀ b ∈ fp, FpOk X pins H' b := fun hn b hb => ⟨hn b hb, (f2 b hb).2⟩
  refine codeAny_forLoop_any (fun n s' => ∃ i σ' H', Inv X pins σ' H' s' ∧ tn i s'.heap ∧ (∀ b ∈ fp, H' b = none) ∧ W i n σ' H') ?_ m0 ⟨0, σ, H2, I2, st2, fun b hb => (f2 b hb).1, w0⟩
  rintro n s3 ⟨i, σ3, H3, I3, st3, fr3, w3⟩
  rcases turn i n σ3 H3 w3 with ⟨stop, qn⟩ | ⟨go, N, hN, step⟩
  · refine wpAny_passesOwn hp (thn (T.done X rfl rfl rfl hc i pins s3 σ3 H3 X.xe I3 (stat fr3) st3 stop) fun r s4 ⟨hr, I4⟩ => ?_)
    subst hr
    exact wpAny_execs_nil ⟨σ3, H3, I4, qn⟩
  · refine wpAny_passesOwn hp (thn (T.item X rfl rfl rfl hc i pins s3 σ3 H3 X.xe I3 (stat fr3) st3 go) fun r s4 ⟨u, hr, h4⟩ => ?_)
    subst hr
    refine wpAny_passesOwn hp (thn h4 fun _ s5 ⟨x, H5, I5, r5, y5, st5, fr5⟩ => ?_)
    have I5' := I5.pinned (stat fr5) (T.obj _ _ st5)
    refine wpAny_passesOwn hp (thn (hg _ s5 σ3 H5 x u _ I5' r5 (step x H5 y5)) fun _ s6 ⟨σ6, H6, I6, q6⟩ => ?_)
    refine wpAny_passesOwn hp (thn (hb _ s6 σ6 H6 _ I6 q6) fun f s7 q7 => ?_)
    have again : ∀ {σ7 : St} {H7 : Hp}, Inv X (pins ++ pinsAt fp s5.heap) σ7 H7 s7 → N σ7 H7 → ∃ m, m < n ∧ ∃ i σ' H', Inv X pins σ' H' s7 ∧ tn i s7.heap ∧ (∀ b ∈ fp, H' b = none) ∧ W i m σ' H' := fun {σ7 H7} I7 n7 => by
      obtain ⟨m', hm, w7⟩ := hN σ7 H7 n7
      refine ⟨m', hm, i + 1, σ7, H7, I7.unpinned, T.keep _ _ _ st5 fun b hb o e => (I7.pin (b, o) (List.mem_append_right _ (List.mem_append_right _ (mem_pinsAt hb e)))).1, fun b hb => ?_, w7⟩
      obtain ⟨o, e, d⟩ := T.obj _ _ st5 b hb
      exact (I7.pin (b, o) (List.mem_append_right _ (List.mem_append_right _ (mem_pinsAt hb e)))).2.1
    cases f with
    | next => obtain ⟨σ7, H7, I7, n7⟩ := q7; exact again I7 n7
    | cont => obtain ⟨σ7, H7, I7, n7⟩ := q7; exact again I7 n7
    | brk => obtain ⟨σ7, H7, I7, q7⟩ := q7; exact ⟨σ7, H7, I7.unpinned, q7⟩
    | ret v => obtain ⟨x7, σ7, H7, I7, r7, q7⟩ := q7; exact ⟨x7, σ7, H7, I7.unpinned, r7, q7⟩
end

/-! ### the forms one uses -/
/-- over a list that the body leaves as it is -/
theorem for_list {K : PySem.W.Frag} {a : Addr} {xs : List V} {g : TG} {tb : TS} {D : Ends} {σ : St} {H : Hp} (Pv : Nat → St → Hp → Prop) (h0 : Pv 0 σ H) (hl : ∀ i σ H, i ≤ xs.length → Pv i σ H → SqL K H a xs)
    (hs : ∀ i x σ H, xs[i]? = some x → Pv i σ H → g x σ H fun σ2 H2 => tb { D with nx := Pv (i + 1), ct := Pv (i + 1), bk := D.nx } σ2 H2) (hd : ∀ σ H, Pv xs.length σ H → D.nx σ H) :
    ∃ W : Nat → Nat → St → Hp → Prop, (∃ m, W 0 m σ H) ∧ ∀ i m σ H, W i m σ H →
      ((Itl K a).stop i H ∧ D.nx σ H) ∨ ((Itl K a).go i H ∧ ∃ N : St → Hp → Prop, (∀ σ' H', N σ' H' → ∃ m', m' < m ∧ W (i + 1) m' σ' H') ∧ ∀ x H', (Itl K a).yld i H x H' → g x σ H' fun σ2 H2 => tb { D with nx := N, ct := N, bk := D.nx } σ2 H2) := by
  refine ⟨fun i m σ H => m = xs.length - i ∧ i ≤ xs.length ∧ Pv i σ H, ⟨xs.length, by simp, Nat.zero_le _, h0⟩, ?_⟩
  rintro i m σ H ⟨rfl, hi, p⟩
  have q := hl i σ H hi p
  by_cases hlt : i < xs.length
  · refine .inr ⟨⟨xs, xs[i], q, by simp [hlt]⟩, Pv (i + 1), fun σ' H' p' => ⟨xs.length - (i + 1), by omega, rfl, hlt, p'⟩, fun x H' y => ?_⟩
    obtain ⟨e, y⟩ := y
    subst e
    exact hs i x σ _ (y xs q) p
  · have e : i = xs.length := by omega
    subst e
    exact .inl ⟨⟨xs, q, Nat.le_refl _⟩, hd σ H p⟩
theorem for_range {lo : Int} {n : Nat} {g : TG} {tb : TS} {D : Ends} {σ : St} {H : Hp} (Pv : Nat → St → Hp → Prop) (h0 : Pv 0 σ H)
    (hs : ∀ i σ H, i < n → Pv i σ H → g (.int (lo + i)) σ H fun σ2 H2 => tb { D with nx := Pv (i + 1), ct := Pv (i + 1), bk := D.nx } σ2 H2) (hd : ∀ σ H, Pv n σ H → D.nx σ H) :
    ∃ W : Nat → Nat → St → Hp → Prop, (∃ m, W 0 m σ H) ∧ ∀ i m σ H, W i m σ H →
      ((Itr lo n).stop i H ∧ D.nx σ H) ∨ ((Itr lo n).go i H ∧ ∃ N : St → Hp → Prop, (∀ σ' H', N σ' H' → ∃ m', m' < m ∧ W (i + 1) m' σ' H') ∧ ∀ x H', (Itr lo n).yld i H x H' → g x σ H' fun σ2 H2 => tb { D with nx := N, ct := N, bk := D.nx } σ2 H2) := by
  refine ⟨fun i m σ H => m = n - i ∧ i ≤ n ∧ Pv i σ H, ⟨n, by simp, Nat.zero_le _, h0⟩, ?_⟩
  rintro i m σ H ⟨rfl, hi, p⟩
  by_cases hlt : i < n
  · refine .inr ⟨hlt, Pv (i + 1), fun σ' H' p' => ⟨n - (i + 1), by omega, rfl, hlt, p'⟩, fun x H' y => ?_⟩
    obtain ⟨e, y⟩ := y
    subst e y
    exact hs i σ _ hlt p
  · have e : i = n := by omega
    subst e
    exact .inl ⟨Nat.le_refl _, hd σ H p⟩
end L2

namespace L2
open PySem PySem.Spec PyProof.Rows

abbrev R2 := V → V → Hp → VK → Prop
/-- a two-place operation on values: f is binaryOp op, inplaceOp op or compareOp op -/
def OpR (X : Cx) (f : Value → Value → Sem Value) (r : R2) : Prop :=
  ∀ (pins : List (Addr × Obj)) (s : Shared) (σ : St) (H : Hp) (x y : V) (v u : Value) (Q : VK), Inv X pins σ H s → RelV x v → RelV y u → r x y H Q →
    wpAny (model X.prog X.w) X.A (f v u) (EP X pins σ Q) X.xe s
/-- a one-place operation -/
def UnR (X : Cx) (f : Value → Sem Value) (r : V → Hp → VK → Prop) : Prop :=
  ∀ (pins : List (Addr × Obj)) (s : Shared) (σ : St) (H : Hp) (x : V) (v : Value) (Q : VK), Inv X pins σ H s → RelV x v → r x H Q →
    wpAny (model X.prog X.w) X.A (f v) (EP X pins σ Q) X.xe s
/-- a call of a value that is known (a builtin, a type) with values -/
def CallR (X : Cx) (f : Value) (r : List V → Hp → VK → Prop) : Prop :=
  ∀ (pins : List (Addr × Obj)) (s : Shared) (σ : St) (H : Hp) (xs : List V) (us : List Value) (Q : VK), Inv X pins σ H s → Vals xs us → r xs H Q →
    wpAny (model X.prog X.w) X.A (call f us) (EP X pins σ Q) X.xe s
def tOp (r : R2) (ta tb : TE) : TE := fun σ H Q => ta σ H fun x H1 => tb σ H1 fun y H2 => r x y H2 Q
def tUn (r : V → Hp → VK → Prop) (ta : TE) : TE := fun σ H Q => ta σ H fun x H1 => r x H1 Q
/-- ints in, under C, and a value out -/
def rI (C : Int → Int → Prop) (g : Int → Int → V) : R2 := fun x y H Q => ∃ i j, x = .int i ∧ y = .int j ∧ C i j ∧ Q (g i j) H
def rI0 (g : Int → Int → V) : R2 := fun x y H Q => ∃ i j, x = .int i ∧ y = .int j ∧ Q (g i j) H
def rU (g : Int → V) : V → Hp → VK → Prop := fun x H Q => ∃ i, x = .int i ∧ Q (g i) H

section
variable {X : Cx} {a b c : Expr} {ta tb tc : TE} {pos : Pos}

theorem binT (ha : PE X a ta) (hb : PE X b tb) {pins : List (Addr × Obj)} {s : Shared} {σ : St} {H : Hp} {R : V → V → Hp → Prop} (I : Inv X pins σ H s)
    (h : ta σ H fun x H1 => tb σ H1 fun y H2 => R x y H2) {Q : Value → Shared → Prop} {f : Value → Value → Sem Value}
    (hf : ∀ v u s2 x y H2, Inv X pins σ H2 s2 → RelV x v → RelV y u → R x y H2 → wpAny (model X.prog X.w) X.A (f v u) Q X.xe s2) :
    wpAny (model X.prog X.w) X.A (eval a X.env) (fun v s₁ => wpAny (model X.prog X.w) X.A (eval b X.env) (fun u s₂ => wpAny (model X.prog X.w) X.A (f v u) Q X.xe s₂) X.xe s₁) X.xe s := by
  refine thn (ha pins s σ H _ I h) fun v s1 ⟨x, H1, I1, r1, q1⟩ => ?_
  refine thn (hb pins s1 σ H1 _ I1 q1) fun u s2 ⟨y, H2, I2, r2, q2⟩ => ?_
  exact hf v u s2 x y H2 I2 r1 r2 q2

theorem pe_op {op : Operator} {r : R2} (ho : OpR X (binaryOp op) r) (ha : PE X a ta) (hb : PE X b tb) : PE X (.BinOp a op b pos) (tOp r ta tb) := by
  intro pins s σ H Q I h
  exact wpAny_BinOp (binT ha hb I h fun v u s2 x y H2 I2 rx ry q => ho pins s2 σ H2 x y v u Q I2 rx ry q)
theorem pe_un {op : UnaryOp} {r : V → Hp → VK → Prop} (ho : UnR X (unaryOp op) r) (ha : PE X a ta) : PE X (.UnaryOp op a pos) (tUn r ta) := by
  intro pins s σ H Q I h
  exact UnaryOp_ (thn (ha pins s σ H _ I h) fun v s1 ⟨x, H1, I1, r1, q1⟩ => ho pins s1 σ H1 x v Q I1 r1 q1)
/-! ### ints -/
theorem opI {f : Value → Value → Sem Value} {C : Int → Int → Prop} {g : Int → Int → Int}
    (rule : ∀ (i j : Int) (t u : Tok) (s : Shared) (Q : Value → Shared → Prop) (E : Value → Shared → Prop), C i j → Q (.int (g i j) s.toks) { s with toks := s.toks + 1 } → wpAny (model X.prog X.w) X.A (f (.int i t) (.int j u)) Q E s) :
    OpR X f (rI C fun i j => .int (g i j)) := by
  intro pins s σ H x y v u Q I rx ry h
  obtain ⟨i, j, rfl, rfl, hc, q⟩ := h
  obtain ⟨t, rfl⟩ := rx
  obtain ⟨t', rfl⟩ := ry
  exact rule i j t t' s _ _ hc ⟨.int (g i j), H, I.tok _, ⟨_, rfl⟩, q⟩
theorem opI0 {f : Value → Value → Sem Value} {g : Int → Int → Int}
    (rule : ∀ (i j : Int) (t u : Tok) (s : Shared) (Q : Value → Shared → Prop) (E : Value → Shared → Prop), Q (.int (g i j) s.toks) { s with toks := s.toks + 1 } → wpAny (model X.prog X.w) X.A (f (.int i t) (.int j u)) Q E s) :
    OpR X f (rI0 fun i j => .int (g i j)) := by
  intro pins s σ H x y v u Q I rx ry h
  obtain ⟨i, j, rfl, rfl, q⟩ := h
  obtain ⟨t, rfl⟩ := rx
  obtain ⟨t', rfl⟩ := ry
  exact rule i j t t' s _ _ ⟨.int (g i j), H, I.tok _, ⟨_, rfl⟩, q⟩
theorem opB0 {f : Value → Value → Sem Value} {g : Int → Int → Bool}
    (rule : ∀ (i j : Int) (t u : Tok) (s : Shared) (Q : Value → Shared → Prop) (E : Value → Shared → Prop), Q (.bool (g i j)) s → wpAny (model X.prog X.w) X.A (f (.int i t) (.int j u)) Q E s) :
    OpR X f (rI0 fun i j => .bl (g i j)) := by
  intro pins s σ H x y v u Q I rx ry h
  obtain ⟨i, j, rfl, rfl, q⟩ := h
  obtain ⟨t, rfl⟩ := rx
  obtain ⟨t', rfl⟩ := ry
  exact rule i j t t' s _ _ ⟨.bl (g i j), H, I, rfl, q⟩

def CDiv (i j : Int) : Prop := 0 < j ∧ j < 1073741824
def CMul (i j : Int) : Prop := (-(2 ^ 64) < i ∧ i < 2 ^ 64) ∨ (-(2 ^ 64) < j ∧ j < 2 ^ 64)
theorem CMul.ok {i j : Int} (h : CMul i j) : IntMulOk i j := by
  rcases h with ⟨h1, h2⟩ | ⟨h1, h2⟩
  · exact .of_left (intBits_le_64 h1 h2)
  · exact .of_right (intBits_le_64 h1 h2)
theorem op_add : OpR X (binaryOp .Add) (rI0 fun i j => .int (i + j)) := opI0 fun _ _ _ _ _ _ _ q => add_int q
theorem op_sub : OpR X (binaryOp .Sub) (rI0 fun i j => .int (i - j)) := opI0 fun _ _ _ _ _ _ _ q => sub_int q
theorem op_mul : OpR X (binaryOp .Mult) (rI CMul fun i j => .int (i * j)) := opI fun _ _ _ _ _ _ _ hc q => mul_int q hc.ok
/-- // by a positive divisor -/
theorem op_fdiv : OpR X (binaryOp .FloorDiv) (rI CDiv fun i j => .int (i / j)) := opI fun i j _ _ _ _ _ hc q => by
  have h1 : (0 : Int) < j := hc.1
  have h2 : j < 1073741824 := hc.2
  exact floordiv_int (by omega) (by rw [Int.fdiv_eq_ediv_of_nonneg i (by omega)]; exact q) (.inl (PyProof.noPylong_small (by omega)))
/-- % by a positive divisor of any size -/
theorem op_mod : OpR X (binaryOp .Mod) (rI (fun _ j => 0 < j) fun i j => .int (i % j)) := opI fun i j _ _ _ _ _ hc q => by
  have h1 : (0 : Int) < j := hc
  exact mod_int' (by omega) (by rw [Int.fmod_eq_emod_of_nonneg i (by omega)]; exact q)
theorem unI {f : Value → Sem Value} {g : Int → Int}
    (rule : ∀ (i : Int) (t : Tok) (s : Shared) (Q : Value → Shared → Prop) (E : Value → Shared → Prop), Q (.int (g i) s.toks) { s with toks := s.toks + 1 } → wpAny (model X.prog X.w) X.A (f (.int i t)) Q E s) :
    UnR X f (rU fun i => .int (g i)) := by
  intro pins s σ H x v Q I rx h
  obtain ⟨i, rfl, q⟩ := h
  obtain ⟨t, rfl⟩ := rx
  exact rule i t s _ _ ⟨.int (g i), H, I.tok _, ⟨_, rfl⟩, q⟩
theorem un_neg : UnR X (unaryOp .USub) (rU fun i => .int (-i)) := unI fun _ _ _ _ _ q => neg_int q
/-! ### bools among ints: n += (a < b) -/
end

/-! ### comparisons -/
/-- the scalars that == tells apart as data does -/
def scal : V → V → Bool
  | .non, .non => true | .non, .int _ => true | .int _, .non => true | .non, .bl _ => true | .bl _, .non => true | .non, .str _ => true | .str _, .non => true
  | .int _, .int _ => true | .bl _, .bl _ => true | .str _, .str _ => true | .byt _, .byt _ => true
  | .int _, .str _ => true | .str _, .int _ => true | .bl _, .str _ => true | .str _, .bl _ => true
  | _, _ => false
def rEq : R2 := fun x y H Q => scal x y = true ∧ Q (.bl (decide (x = y))) H
def rNe : R2 := fun x y H Q => scal x y = true ∧ Q (.bl (!decide (x = y))) H

theorem dec_int {i j : Int} : decide (V.int i = V.int j) = (i == j) := by
  rw [Bool.eq_iff_iff]
  simp
theorem dec_bl {i j : Bool} : decide (V.bl i = V.bl j) = (i == j) := by
  rw [Bool.eq_iff_iff]
  simp
theorem dec_str {i j : Str} : decide (V.str i = V.str j) = (i == j) := by
  rw [Bool.eq_iff_iff]
  simp
theorem dec_byt {i j : Array UInt8} : decide (V.byt i = V.byt j) = (i.toList == j.toList) := by
  rw [Bool.eq_iff_iff]
  cases i
  cases j
  simp

section
variable {X : Cx} {a b c : Expr} {ta tb tc : TE} {pos : Pos}
theorem fin_bl {pins : List (Addr × Obj)} {σ : St} {H : Hp} {s : Shared} {Q : VK} {k k' : Bool} (I : Inv X pins σ H s) (q : Q (.bl k) H) (e : k = k') : EP X pins σ Q (.bool k') s := by
  subst e
  exact ⟨.bl k, H, I, rfl, q⟩
theorem op_eq : OpR X (compareOp .Eq) rEq := by
  intro pins s σ H x y v u Q I rx ry h
  obtain ⟨hs, q⟩ := h
  cases x with
  | non =>
    cases rx
    cases y with
    | non => cases ry; exact PySem.EqNone.eq_none_none (fin_bl I q (by simp))
    | bl j => cases ry; exact PySem.EqNone.eq_none_bool (fin_bl I q (by simp))
    | int j => obtain ⟨t', rfl⟩ := ry; exact PySem.EqNone.eq_none_int (fin_bl I q (by simp))
    | str j => obtain ⟨t', rfl⟩ := ry; exact PySem.EqNone.eq_none_str (fin_bl I q (by simp))
    | _ => exact absurd (show false = true from hs) Bool.false_ne_true
  | bl i =>
    cases rx
    cases y with
    | non => cases ry; exact PySem.EqNone.eq_bool_none (fin_bl I q (by simp))
    | bl j => cases ry; exact eq_bool (fin_bl I q dec_bl)
    | str j => obtain ⟨t', rfl⟩ := ry; exact PySem.EqMixed.eq_bool_str (fin_bl I q (by simp))
    | _ => exact absurd (show false = true from hs) Bool.false_ne_true
  | int i =>
    obtain ⟨t, rfl⟩ := rx
    cases y with
    | non => cases ry; exact PySem.EqNone.eq_int_none (fin_bl I q (by simp))
    | int j => obtain ⟨t', rfl⟩ := ry; exact eq_int (fin_bl I q dec_int)
    | str j => obtain ⟨t', rfl⟩ := ry; exact PySem.EqMixed.eq_int_str (fin_bl I q (by simp))
    | _ => exact absurd (show false = true from hs) Bool.false_ne_true
  | str i =>
    obtain ⟨t, rfl⟩ := rx
    cases y with
    | non => cases ry; exact PySem.EqNone.eq_str_none (fin_bl I q (by simp))
    | bl j => cases ry; exact PySem.EqMixed.eq_str_bool (fin_bl I q (by simp))
    | int j => obtain ⟨t', rfl⟩ := ry; exact PySem.EqMixed.eq_str_int (fin_bl I q (by simp))
    | str j => obtain ⟨t', rfl⟩ := ry; exact eq_str (fin_bl I q dec_str)
    | _ => exact absurd (show false = true from hs) Bool.false_ne_true
  | byt i =>
    obtain ⟨t, rfl⟩ := rx
    cases y with
    | byt j => obtain ⟨t', rfl⟩ := ry; exact PySem.W.eq_bytes (fin_bl I q dec_byt)
    | _ => exact absurd (show false = true from hs) Bool.false_ne_true
  | _ => cases y <;> exact absurd (show false = true from hs) Bool.false_ne_true
theorem op_ne : OpR X (compareOp .NotEq) rNe := by
  intro pins s σ H x y v u Q I rx ry h
  obtain ⟨hs, q⟩ := h
  cases x with
  | non =>
    cases rx
    cases y with
    | non => cases ry; exact PySem.EqNone.ne_none_none (fin_bl I q (by simp))
    | bl j => cases ry; exact PySem.EqNone.ne_none_bool (fin_bl I q (by simp))
    | int j => obtain ⟨t', rfl⟩ := ry; exact PySem.EqNone.ne_none_int (fin_bl I q (by simp))
    | str j => obtain ⟨t', rfl⟩ := ry; exact PySem.EqNone.ne_none_str (fin_bl I q (by simp))
    | _ => exact absurd (show false = true from hs) Bool.false_ne_true
  | bl i =>
    cases rx
    cases y with
    | non => cases ry; exact PySem.EqNone.ne_bool_none (fin_bl I q (by simp))
    | bl j => cases ry; exact ne_bool (fin_bl I q (congrArg not dec_bl))
    | str j => obtain ⟨t', rfl⟩ := ry; exact PySem.EqMixed.ne_bool_str (fin_bl I q (by simp))
    | _ => exact absurd (show false = true from hs) Bool.false_ne_true
  | int i =>
    obtain ⟨t, rfl⟩ := rx
    cases y with
    | non => cases ry; exact PySem.EqNone.ne_int_none (fin_bl I q (by simp))
    | int j => obtain ⟨t', rfl⟩ := ry; exact ne_int (fin_bl I q (congrArg not dec_int))
    | str j => obtain ⟨t', rfl⟩ := ry; exact PySem.EqMixed.ne_int_str (fin_bl I q (by simp))
    | _ => exact absurd (show false = true from hs) Bool.false_ne_true
  | str i =>
    obtain ⟨t, rfl⟩ := rx
    cases y with
    | non => cases ry; exact PySem.EqNone.ne_str_none (fin_bl I q (by simp))
    | bl j => cases ry; exact PySem.EqMixed.ne_str_bool (fin_bl I q (by simp))
    | int j => obtain ⟨t', rfl⟩ := ry; exact PySem.EqMixed.ne_str_int (fin_bl I q (by simp))
    | str j => obtain ⟨t', rfl⟩ := ry; exact ne_str (fin_bl I q (congrArg not dec_str))
    | _ => exact absurd (show false = true from hs) Bool.false_ne_true
  | byt i =>
    obtain ⟨t, rfl⟩ := rx
    cases y with
    | byt j => obtain ⟨t', rfl⟩ := ry; exact PySem.W.ne_bytes (fin_bl I q (congrArg not dec_byt))
    | _ => exact absurd (show false = true from hs) Bool.false_ne_true
  | _ => cases y <;> exact absurd (show false = true from hs) Bool.false_ne_true

theorem op_lt : OpR X (compareOp .Lt) (rI0 fun i j => .bl (decide (i < j))) := opB0 fun _ _ _ _ _ _ _ q => lt_int q
theorem op_le : OpR X (compareOp .LtE) (rI0 fun i j => .bl (decide (i ≤ j))) := opB0 fun _ _ _ _ _ _ _ q => le_int q
theorem op_gt : OpR X (compareOp .Gt) (rI0 fun i j => .bl (decide (j < i))) := opB0 fun _ _ _ _ _ _ _ q => gt_int q
theorem op_ge : OpR X (compareOp .GtE) (rI0 fun i j => .bl (decide (j ≤ i))) := opB0 fun _ _ _ _ _ _ _ q => ge_int q
/-- is None, is not None: the right side a value none -/
theorem op_isN : OpR X (compareOp .Is) (fun x y H Q => y = .non ∧ Q (.bl (decide (x = .non))) H) := by
  intro pins s σ H x y v u Q I rx ry h
  obtain ⟨rfl, q⟩ := h
  cases ry
  refine is_none_gen (fin_bl I q ?_)
  cases x <;> first
    | (cases rx; rfl)
    | (obtain ⟨t, rfl⟩ := rx; rfl)
theorem op_notN : OpR X (compareOp .IsNot) (fun x y H Q => y = .non ∧ Q (.bl (!decide (x = .non))) H) := by
  intro pins s σ H x y v u Q I rx ry h
  obtain ⟨rfl, q⟩ := h
  cases ry
  refine isnot_none_gen (fin_bl I q ?_)
  cases x <;> first
    | (cases rx; rfl)
    | (obtain ⟨t, rfl⟩ := rx; rfl)

theorem nomark (b : Expr) {op : CmpOp} (h : op ≠ .In := by decide) (h2 : op ≠ .NotIn := by decide) : behindInMarks op b = false := by
  have e1 : (op == CmpOp.In) = false := by cases op <;> first | rfl | exact absurd rfl h
  have e2 : (op == CmpOp.NotIn) = false := by cases op <;> first | rfl | exact absurd rfl h2
  cases b <;> simp [behindInMarks, e1, e2]
/-- a comparison as a value; hm: nomark b, or (for in, not in) by with_unfolding_all rfl -/
theorem pe_cmpR {op : CmpOp} {r : R2} (ho : OpR X (compareOp op) r) (ha : PE X a ta) (hb : PE X b tb) (hm : behindInMarks op b = false) : PE X (.Compare a [op] [b] pos) (tOp r ta tb) := by
  intro pins s σ H Q I h
  exact wpAny_Compare1 (binT ha hb I h fun v u s2 x y H2 I2 rx ry q => ho pins s2 σ H2 x y v u Q I2 rx ry q) hm
/-- a reading of a value as a test -/
def tTest (t : TE) : TT := fun σ H Q => t σ H fun x H' => ∃ k, x = .bl k ∧ Q k H'
theorem pt_cmpR {op : CmpOp} {r : R2} (ho : OpR X (compareOp op) r) (ha : PE X a ta) (hb : PE X b tb) (hm : behindInMarks op b = false) : PT X (.Compare a [op] [b] pos) (tTest (tOp r ta tb)) := by
  intro pins s σ H Q I h
  refine wpAny_isTrue_Compare1 (thn (ha pins s σ H _ I h) fun v s1 ⟨x, H1, I1, r1, q1⟩ => thn (hb pins s1 σ H1 _ I1 q1) fun u s2 ⟨y, H2, I2, r2, q2⟩ =>
    thn (ho pins s2 σ H2 x y v u _ I2 r1 r2 q2) fun c s3 ⟨z, H3, I3, r3, k, e, q3⟩ => ?_) hm
  subst e
  cases r3
  exact wpAny_truthy_bool ⟨H3, I3, q3⟩
/-- a op1 b op2 c -/
def tChain (r r' : R2) (ta tb tc : TE) : TE := fun σ H Q => ta σ H fun x H1 => tb σ H1 fun y H2 => r x y H2 fun z H3 => ∃ k, z = .bl k ∧
  (if k = true then tc σ H3 fun w' H4 => r' y w' H4 Q else Q (.bl false) H3)
theorem pt_chain {op op' : CmpOp} {r r' : R2} (ho : OpR X (compareOp op) r) (ho' : OpR X (compareOp op') r') (ha : PE X a ta) (hb : PE X b tb) (hc : PE X c tc)
    (hm : lastMarks [op, op'] [b, c] = false := by with_unfolding_all rfl) : PT X (.Compare a [op, op'] [b, c] pos) (tTest (tChain r r' ta tb tc)) := by
  intro pins s σ H Q I h
  refine isTrue_chain (thn (ha pins s σ H _ I h) fun v s1 ⟨x, H1, I1, r1, q1⟩ => test_link (thn (hb pins s1 σ H1 _ I1 q1) fun u s2 ⟨y, H2, I2, r2, q2⟩ =>
    thn (ho pins s2 σ H2 x y v u _ I2 r1 r2 q2) fun d s3 ⟨z, H3, I3, r3, k, e, q3⟩ => ?_)) hm
  subst e
  cases r3
  refine wpAny_truthy_bool ?_
  cases k with
  | false =>
    obtain ⟨k', e', q'⟩ := q3
    cases e'
    exact ite_ff ⟨H3, I3, q'⟩
  | true =>
    refine ite_tt (test_last (thn (hc pins s3 σ H3 _ I3 q3) fun w' s4 ⟨z', H4, I4, r4, q4⟩ => thn (ho' pins s4 σ H4 y z' u w' _ I4 r2 r4 q4) fun d' s5 ⟨z2, H5, I5, r5, k2, e2, q5⟩ => ?_))
    subst e2
    cases r5
    exact wpAny_truthy_bool ⟨H5, I5, q5⟩

/-! ### truth -/
theorem line63 : (sizeLine : Nat) < 2 ^ 63 := by rw [sizeLine_eq]; decide
/-! ### strs and bytes -/
/-! ### scalar builtins, by CallR -/
theorem vals1 {x : V} {us : List Value} (r : Vals [x] us) : ∃ u, us = [u] ∧ RelV x u := by
  cases r with
  | cons r1 r2 => cases r2; exact ⟨_, rfl, r1⟩
theorem vals2 {x y : V} {us : List Value} (r : Vals [x, y] us) : ∃ u w', us = [u, w'] ∧ RelV x u ∧ RelV y w' := by
  cases r with
  | cons r1 r2 =>
    cases r2 with
    | cons r3 r4 => cases r4; exact ⟨_, _, rfl, r1, r3⟩
theorem call_max2 (hc : X.calm = true) : CallR X (.builtin "max") (fun xs H Q => ∃ i j, xs = [.int i, .int j] ∧ Q (.int (if j > i then j else i)) H) := by
  intro pins s σ H xs us Q I r h
  obtain ⟨i, j, rfl, q⟩ := h
  obtain ⟨u, w', rfl, ⟨t, rfl⟩, ⟨t', rfl⟩⟩ := vals2 r
  refine max_two_ints (I.ok.hd hc) fun h' tk k => ⟨_, H, I.kept k, ?_, q⟩
  by_cases hj : j > i
  · rw [if_pos hj, if_pos hj]; exact ⟨_, rfl⟩
  · rw [if_neg hj, if_neg hj]; exact ⟨_, rfl⟩
end
end L2

namespace L2
open PySem PySem.Spec PyProof.Rows

/-! ### an instance, its attributes a map -/
structure ObjM (h : Heap) (x dx C : Addr) (mA : Str → Option Value) : Prop where
  obj : h.get? x = some (PySem.W.instObj C dx)
  ns : h.Ns1 dx mA
  ne : dx ≠ x

theorem lookIn_ns {h : Heap} {dx : Addr} {mA : Str → Option Value} (n : h.Ns1 dx mA) : ∃ od, h.get? dx = some od ∧ ∀ name, PySem.W.lookIn name od = some (mA name) := by
  obtain ⟨o, es, ep, ho, hd, hk, _, hm⟩ := n
  refine ⟨o, ho, fun name => ?_⟩
  have e := hm name
  unfold nsFind findBy at e
  rw [← Array.find?_toList] at e
  unfold PySem.W.lookIn
  rw [hd]
  dsimp only
  split
  · rename_i y q
    rw [q] at e
    exact congrArg some e
  · rename_i q
    rw [q] at e
    have a : es.toList.any (·.refKey) = false := by
      rw [List.any_eq_false]
      intro y hy
      obtain ⟨z, t, hkey⟩ := hk y (Array.mem_toList_iff.mp hy)
      simp [DictEntry.refKey, hkey]
    have a' : ¬ es.toList.any (·.refKey) = true := by rw [a]; exact Bool.false_ne_true
    rw [if_neg a']
    exact congrArg some e

theorem ObjM.look {h : Heap} {x dx C : Addr} {mA : Str → Option Value} (I : ObjM h x dx C mA) : ∃ od, PySem.W.InstAt h x (PySem.W.instObj C dx) C (some od) ∧ ∀ name, PySem.W.lookIn name od = some (mA name) :=
  let ⟨od, ho, hl⟩ := lookIn_ns I.ns
  ⟨od, ⟨I.obj, rfl, rfl, ho⟩, hl⟩

section
variable {prog : Program} {w : World} {A : Around} {E : Value → Shared → Prop} {s : Shared} {K : PySem.W.Frag} {x dx C f : Addr} {mA : Str → Option Value} {name : Str} {v : Value}

end

/-! ### the attributes as a list of pairs -/
section
variable {P : Program} {w : World} {H H' : Hp} {h h' : Heap} {a C dx : Addr} {fs fs' : List (Str × V)}
theorem ins_get (hok : HOk P w H h) (e : H a = some (.ins C dx fs)) : ∃ mA, ObjM h a dx C mA ∧ (∀ f, RelO (fs.lookup f) (mA f)) ∧ PySem.Within mA (fs.map (·.1)) ∧ fs.length ≤ 1000 ∧ H dx = some (.own a) := by
  obtain ⟨d, z, ne, ob, mA, n, r, q⟩ := (show ObjOk P w H h a (.ins C dx fs) from hok a _ e)
  exact ⟨mA, ⟨ob, n, ne⟩, r, q, z, d⟩
end

/-! ### what of the text a class must have -/
structure Cls (K : PySem.W.Frag) (C : Addr) : Prop where
  pg : PySem.W.plainGet K C Str.empty = true
  hd : PySem.W.hasDictIn K C = true
  po : PySem.W.plainOver K C = true
  sa : PySem.W.findIn K (.ref C) "__setattr__" = some (some (.builtin "object.__setattr__"))
theorem Cls.get {K : PySem.W.Frag} {C : Addr} (c : Cls K C) (f : Str) : PySem.W.plainGet K C f = true := c.pg
section
variable {X : Cx} {pins : List (Addr × Obj)} {σ : St} {H : Hp} {s : Shared} {a C dx : Addr} {fs : List (Str × V)} {f : Str} {v : V} {A : Around} {E : Value → Shared → Prop}

end

/-! ### readings and rules -/
section
variable {X : Cx} {o e value : Expr} {f : Str} {pos pos' tpos : Pos} {ta tv : TE}
end

/-! ### isinstance -/
section
variable {X : Cx} {pins : List (Addr × Obj)} {σ : St} {H : Hp} {s : Shared} {A : Around} {E : Value → Shared → Prop} {Q : Value → Shared → Prop} {c : Value} {b : Bool}
/-- the type of a value, as the fragment's deciders take it; for an instance its class -/
inductive TyOf (K : PySem.W.Frag) (H : Hp) : V → Value → Prop where
  | non : TyOf K H .non (.type "NoneType")
  | bl (x : Bool) : TyOf K H (.bl x) (.type "bool")
  | int (i : Int) : TyOf K H (.int i) (.type "int")
  | str (x : Str) : TyOf K H (.str x) (.type "str")
  | flt (x : UInt64) : TyOf K H (.flt x) (.type "float")
  | lst {a : Addr} {xs : List V} (e : H a = some (.lst xs)) : TyOf K H (.ref a) (.type "list")
  | frz {a : Addr} {o : Obj} {xs : List V} (e : H a = some (.frz o (.lst xs))) : TyOf K H (.ref a) (.type "list")
  | tup {a : Addr} {xs : List V} (e : H a = some (.tup xs)) : TyOf K H (.ref a) (.type "tuple")
  | dK {a : Addr} {kvs : List (Key × V)} (e : H a = some (.dK kvs)) : TyOf K H (.ref a) (.type "dict")
  | dT {a : Addr} {kvs : List (List Key × V)} (e : H a = some (.dT kvs)) : TyOf K H (.ref a) (.type "dict")
  | ins {a C dx : Addr} {fs : List (Str × V)} (e : H a = some (.ins C dx fs)) (cl : Cls K C) (ha : PySem.W.findIn K (.ref C) "__class__" = some (some (.builtin "object.__class__")))
      (hn : PySem.W.specialIn K (.builtin "object.__class__") "__get__" = some (some (.builtin "getset_descriptor.__get__"))) (htk : PySem.W.takesIn K (.builtin "object.__class__") = some true)
      (hm : PySem.W.mroIn K C (.type "object") = some true) : TyOf K H (.ref a) (.ref C)
/-- isinstance(x, c) for one class c, a built-in or an own one: kitOne's answer -/
theorem isinst_ok {x : V} {u t : Value} (I : Inv X pins σ H s) (rx : RelV x u) (ty : TyOf X.K H x t) (e : PySem.W.kitOne X.K t c = some b) (h : ∀ tk, Q (.bool b) { s with toks := tk }) :
    wpAny (model X.prog X.w) A (call (.builtin "isinstance") [u, c]) Q E s := by
  cases ty with
  | non => cases (show u = Value.none from rx); exact PySem.W.kia_one PySem.W.kitx_none I.kIn True.intro e (fun z => nomatch z) h
  | bl y => cases (show u = Value.bool y from rx); exact PySem.W.kia_one PySem.W.kitx_bool I.kIn True.intro e (fun z => nomatch z) h
  | int i => obtain ⟨t, q⟩ := (show ∃ t, u = Value.int i t from rx); cases q; exact PySem.W.kia_one PySem.W.kitx_int I.kIn True.intro e (fun z => nomatch z) h
  | str y => obtain ⟨t, q⟩ := (show ∃ t, u = Value.str y t from rx); cases q; exact PySem.W.kia_one PySem.W.kitx_str I.kIn True.intro e (fun z => nomatch z) h
  | flt y => obtain ⟨t, q⟩ := (show ∃ t, u = Value.float y t from rx); cases q; exact PySem.W.kia_one PySem.W.kitx_float I.kIn True.intro e (fun z => nomatch z) h
  | @lst a xs ea =>
    cases (show u = Value.ref a from rx)
    obtain ⟨_, _, n, _, h1⟩ := (show ObjOk X.prog X.w H s.heap a (.lst xs) from I.hok a _ ea)
    exact PySem.W.kia_one PySem.W.kitx_list I.kIn ⟨_, h1, rfl⟩ e (fun z => nomatch z) h
  | @frz a ob xs ea =>
    cases (show u = Value.ref a from rx)
    obtain ⟨_, _, _, n, _, h1⟩ := (show ObjOk X.prog X.w H s.heap a (.frz ob (.lst xs)) from I.hok a _ ea)
    exact PySem.W.kia_one PySem.W.kitx_list I.kIn ⟨_, h1, rfl⟩ e (fun z => nomatch z) h
  | @tup a xs ea =>
    cases (show u = Value.ref a from rx)
    obtain ⟨_, _, _, p⟩ := (show ObjOk X.prog X.w H s.heap a (.tup xs) from I.hok a _ ea)
    obtain ⟨o, h1, h2, _⟩ := p
    exact PySem.W.kia_one PySem.W.kitx_tuple I.kIn ⟨o, h1, h2⟩ e (fun z => nomatch z) h
  | @dK a kvs ea =>
    cases (show u = Value.ref a from rx)
    obtain ⟨_, _, vs, _, p⟩ := (show ObjOk X.prog X.w H s.heap a (.dK kvs) from I.hok a _ ea)
    obtain ⟨o, es, ep, h1, h2, _⟩ := p
    exact PySem.W.kia_one PySem.W.kitx_dict I.kIn ⟨o, h1, h2.1⟩ e (fun z => nomatch z) h
  | @dT a kvs ea =>
    cases (show u = Value.ref a from rx)
    obtain ⟨_, _, xs, _, o, es, ep, h1, h2, _⟩ := (show ObjOk X.prog X.w H s.heap a (.dT kvs) from I.hok a _ ea)
    exact PySem.W.kia_one PySem.W.kitx_dict I.kIn ⟨o, h1, h2.1⟩ e (fun z => nomatch z) h
  | @ins a C dx fs ea cl ha hn htk hm =>
    cases (show u = Value.ref a from rx)
    obtain ⟨mA, O, _⟩ := ins_get I.hok ea
    obtain ⟨od, J, _⟩ := O.look
    exact PySem.W.kia_one (PySem.W.kitx_own (cl.get _) cl.hd ha hn htk hm) I.kIn J e (fun z => nomatch z) h
end
end L2

namespace L2
open PySem PySem.Spec PyProof.Rows

/-! ### room -/
structure Room (k : Nat) (A : Around) : Prop where
  hd : A.handled = none
  dp : A.depth + 3 * k + 5 < recursionLimit
  un : A.units + 16 * k + 200 < cLine
theorem Room.mono {j k : Nat} {A : Around} (r : Room k A) (h : j ≤ k) : Room j A := ⟨r.hd, by have := r.dp; omega, by have := r.un; omega⟩
theorem Room.deeper {k : Nat} {A : Around} (r : Room (k + 1) A) (env : Env) : Room k (A.deeper env) :=
  ⟨r.hd, by have := r.dp; show A.depth + 1 + 3 * k + 5 < _; omega, by have := r.un; show A.units + 3 + 16 * k + 200 < _; omega⟩
theorem Room.depth {k : Nat} {A : Around} (r : Room k A) : A.depth < recursionLimit := by have := r.dp; omega
theorem Room.units0 {k : Nat} {A : Around} (r : Room k A) : A.units < cLine := by have := r.un; omega

/-! ### argument lists and displays -/
def tNil : TA := fun _ H Q => Q [] H
def tCons (ta : TE) (tr : TA) : TA := fun σ H Q => ta σ H fun x H1 => tr σ H1 fun xs H2 => Q (x :: xs) H2
section
variable {X : Cx} {e : Expr} {es : List Expr} {te : TE} {t : TA} {pos : Pos}
theorem pa_nil : PA X [] tNil := fun _ _ _ _ H Q I h => Calls.spliced_nil ⟨[], H, I, .nil, h⟩
theorem pa_cons (ha : PE X e te) (hr : PA X es t) (hs : starEach (e :: es) X.env = (false, eval e X.env) :: starEach es X.env := by rfl) : PA X (e :: es) (tCons te t) := by
  intro pos pins s σ H Q I h
  rw [hs]
  show wpAny _ _ (spliced ((false, eval e X.env) :: backTo pos (starEach es X.env))) _ _ s
  refine Calls.spliced_cons (thn (ha pins s σ H _ I h) fun u s1 ⟨x, H1, I1, r1, q1⟩ => ?_)
  exact thn (hr pos pins s1 σ H1 _ I1 q1) fun us s2 ⟨xs, H2, I2, r2, q2⟩ => ⟨x :: xs, H2, I2, .cons r1 r2, q2⟩

/-- a tuple, a list of written items -/
def tTup (t : TA) : TE := fun σ H Q => t σ H fun xs H1 => xs.length ≤ sizeLine ∧ ∀ p, H1 p = none → Q (.ref p) (upd H1 p (.tup xs))
def tLst (t : TA) : TE := fun σ H Q => t σ H fun xs H1 => xs.length ≤ sizeLine ∧ ∀ p, H1 p = none → Q (.ref p) (upd H1 p (.lst xs))
theorem pe_tup {x1} (h : PA X es t) : PE X (.Tuple es x1 pos) (tTup t) := by
  intro pins s σ H Q I hq
  refine wpAny_Tuple_spliced (thn (h pos pins s σ H _ I hq) fun us s1 ⟨xs, H1, I1, r, z, q⟩ => ⟨by rw [← r.length]; exact z, ?_⟩)
  have hf : H1 s1.heap.objs.size = none := I1.hok.fresh (Nat.le_refl _)
  refine ⟨.ref s1.heap.objs.size, upd H1 s1.heap.objs.size (.tup xs), I1.laid (t' := s1.toks) (fun b u e => Heap.get?_push_of_some _ e) (Nat.le_refl _) ?_, rfl, q _ hf⟩
  exact ⟨z, us, r, ⟨_, Heap.get?_push_size _ rfl, rfl, _, rfl⟩⟩
theorem pe_lst (h : PA X es t) : PE X (.List es pos) (tLst t) := by
  intro pins s σ H Q I hq
  refine wpAny_List_spliced (thn (h pos pins s σ H _ I hq) fun us s1 ⟨xs, H1, I1, r, z, q⟩ => ⟨by rw [← r.length]; exact z, ?_⟩)
  have hf : H1 s1.heap.objs.size = none := I1.hok.fresh (Nat.le_refl _)
  refine ⟨.ref s1.heap.objs.size, upd H1 s1.heap.objs.size (.lst xs), I1.laid (t' := s1.toks) (fun b u e => Heap.get?_push_of_some _ e) (Nat.le_refl _) ?_, rfl, q _ hf⟩
  exact ⟨z, us, 0, r, Heap.get?_push_size _ rfl⟩
end

/-! ### what a def promises -/
/-- a def's promise: the bound arguments in the parameters' order, the heap, the wanted end, the wanted exception -/
abbrev Sp := List V → Hp → VK → XK → Prop
/-- how an exception lies behind a call (file 08 gives it): the callers' frames, abstract heap and state ahead of the call, the wish, the exception, the state -/
abbrev CXT := List Env → Hp → Shared → XK → Value → Shared → Prop

/-- the state at a call -/
structure Env0 (P : Program) (w : World) (K : PySem.W.Frag) (mg : Str → Option Value) (base : Heap) (A : Around) (outer : List Env) (s : Shared) (H : Hp) : Prop where
  frames : A.frames = some outer
  mod : Mod K mg base
  bs : ∀ b o, base.get? b = some o → s.heap.get? b = some o ∧ H b = none
  bsz : base.objs.size ≤ s.heap.objs.size
  funs : s.heap.FunFrames base outer
  frf : ∀ b ∈ frs outer, H b = none
  hok : HOk P w H s.heap
  bare : AllBare s.gens
/-- a call's end -/
def CE (outer : List Env) (P : Program) (w : World) (H : Hp) (s : Shared) (Q : VK) (u : Value) (s' : Shared) : Prop :=
  ∃ v H', s'.os = s.os ∧ AllBare s'.gens ∧ Un (frs outer) [] H H' s.heap s'.heap ∧ HOk P w H' s'.heap ∧ RelV v u ∧ Q v H'
def CR (CX : CXT) (outer : List Env) (P : Program) (w : World) (H : Hp) (s : Shared) (Q : VK) (E : XK) (r : Result) (s' : Shared) : Prop :=
  match r with
  | .ok (.ret u) => CE outer P w H s Q u s'
  | .ok _ => False
  | .error e => CX outer H s E e s'
structure FnOk (P : Program) (w : World) (K : PySem.W.Frag) (mg : Str → Option Value) (base : Heap) (CX : CXT) (k : Nat) (f : Addr) (fd : FuncData) (ps : List Str) (sp : Sp) : Prop where
  len : ∀ vs H Q E, sp vs H Q E → vs.length = ps.length
  run : ∀ (A : Around) (outer : List Env) (s : Shared) (H : Hp) (args : Args) (us : List Value) (vs : List V) (Q : VK) (E : XK), Room k A → Env0 P w K mg base A outer s H → BindsTo s fd args (ps.zip us) → Vals vs us → sp vs H Q E →
    codeAny (model P w) A (.call (.ref f) args) (CR CX outer P w H s Q E) s
section
variable {X : Cx} {pins : List (Addr × Obj)} {σ : St} {H : Hp} {s s' : Shared}
/-- from a body: what a callee wants -/
theorem Inv.env0 (I : Inv X pins σ H s) : Env0 X.prog X.w X.K X.mg X.base X.A X.stack s H :=
  ⟨I.ok.frames, I.ok.mod, I.bs, Nat.le_trans I.ok.bsz I.sz, I.stack, I.stkFree, I.hok, I.bare⟩
/-- behind a call -/
theorem Inv.after {Q : VK} {u : Value} (I : Inv X pins σ H s) (h : CE X.stack X.prog X.w H s Q u s') : EP X pins σ Q u s' := by
  obtain ⟨v, H', os, bare, un, hok, r, q⟩ := h
  obtain ⟨hh, g, d, t, os'⟩ := s'
  obtain rfl : os' = s.os := os
  exact ⟨v, H', I.call (h' := hh) (g' := g) (d' := d) (t' := t) (ch := []) un hok bare (fun b z => absurd z (by simp)), r, q⟩
end

/-! ### calls -/
/-- f(..): the written arguments, then the defaults dvs; E: what is wanted of an exception -/
def tCall (sp : Sp) (dvs : List V) (E : XK) (t : TA) : TE := fun σ H Q => t σ H fun vs H1 => sp (vs ++ dvs) H1 Q E
/-- how the parameters are bound: us the positional arguments, kw the keywords' values by name, ds the defaults that fill up -/
def Binds (K : PySem.W.Frag) (fd : FuncData) (ps : List Str) (ds : List Value) : Prop :=
  ∀ (s : Shared) (us : List Value), K.In s.heap → (us ++ ds).length = ps.length → BindsTo s fd ⟨us, []⟩ (ps.zip (us ++ ds))
/-- every parameter is given -/
theorem Binds.all {K : PySem.W.Frag} {fd : FuncData} {ps : List Str} (h : ∀ us : List Value, us.length = ps.length → bindArgs fd ⟨us, []⟩ = pure (ps.zip us)) : Binds K fd ps [] := fun s us _ hl => by
  rw [List.append_nil] at hl ⊢
  exact .of_eq (h us hl)

/-- an exception of a callee reaches what this body wants of exceptions -/
def Passes (CX : CXT) (X : Cx) (E : XK) : Prop := ∀ (pins : List (Addr × Obj)) (σ : St) (H : Hp) (s : Shared) (e : Value) (s' : Shared), Inv X pins σ H s → CX X.stack H s E e s' → X.xe e s'

section
variable {X : Cx} {CX : CXT} {k : Nat} {f C : Addr} {fd : FuncData} {ps : List Str} {sp : Sp} {dvs : List V} {ds : List Value} {E : XK} {x m : Str} {p pos apos : Pos} {e o : Expr} {es : List Expr} {ta : TE} {t : TA}

/-- the callee runs -/
theorem run_fn {pins : List (Addr × Obj)} {σ : St} {H : Hp} {s : Shared} {Q : VK} {us : List Value} {vs : List V} (F : FnOk X.prog X.w X.K X.mg X.base CX k f fd ps sp) (hr : Room k X.A) (hb : Binds X.K fd ps ds) (hd : Vals dvs ds) (hx : Passes CX X E)
    (I : Inv X pins σ H s) (r : Vals vs us) (h : sp (vs ++ dvs) H Q E) : wpAny (model X.prog X.w) X.A (call (.ref f) us) (EP X pins σ Q) X.xe s := by
  have r2 : Vals (vs ++ dvs) (us ++ ds) := r.append hd
  have hl : (us ++ ds).length = ps.length := by rw [← r2.length]; exact F.len _ _ _ _ h
  refine wpAny_call (codeAny_mono (F.run X.A X.stack s H ⟨us, []⟩ (us ++ ds) (vs ++ dvs) Q E hr I.env0 (hb s us I.kIn hl) r2 h) fun r s' hq => ?_)
  cases r with
  | error e => exact hx pins σ H s e s' I hq
  | ok fl =>
    cases fl with
    | ret u => exact I.after hq
    | next => exact False.elim hq
    | brk => exact False.elim hq
    | cont => exact False.elim hq

theorem pe_call (F : FnOk X.prog X.w X.K X.mg X.base CX k f fd ps sp) (hr : Room k X.A) (hg : Gl X x) (hm : X.mg x = some (.ref f)) (hk : PySem.W.keepIn X.K (.ref f) = true) (hb : Binds X.K fd ps ds) (hd : Vals dvs ds) (hx : Passes CX X E)
    (ha : PA X (e :: es) t) (hdb : (x == ("__debug__" : Str)) = false := by decide) (he : starEach (e :: es) X.env = (false, eval e X.env) :: starEach es X.env := by rfl) (hpl : (backTo pos (starEach es X.env)).any (·.1) = false := by rfl) :
    PE X (.Call (.Name x p) (e :: es) [] pos) (tCall sp dvs E t) := by
  intro pins s σ H Q I h
  refine wpAny_Call_Name_kw (ld_glob I hg hm ?_ hdb)
  refine PySem.W.callWith_K (h₀ := X.base) I.ok.mod.kin hk (thn (ha pos pins s σ H _ I h) fun us s1 ⟨vs, H1, I1, r, q⟩ => ⟨I1.kIn, ?_⟩) he hpl
  exact run_fn F hr hb hd hx I1 r q
end

/-! ### keywords -/
section
variable {X : Cx} {CX : CXT} {k : Nat} {f C : Addr} {fd : FuncData} {ps ks : List Str} {sp : Sp} {E : XK} {x m : Str} {p pos apos kpos : Pos} {e o : Expr} {es : List Expr} {kws : List Keyword} {te ta : TE} {t tk : TA} {nm : Option Str}
variable {g : List Value → List Value → List Value} {gV : List V → List V → List V}
end

/-! ### a def's body keeps its promise -/
/-- names: the parameters first -/
structure FnScope (N P : List Str) (sc : Scope) : Prop where
  kind : sc.kind = .function
  co : sc.isCoroutine = false
  gen : sc.isGenerator = false
  nd : N.Nodup
  pre : N.take P.length = P
  par : ∀ x ∈ P, sc.names.lookup x = some .local ∨ sc.names.lookup x = some .cell
  nofree : ∀ y ∈ sc.names, y.2 ≠ .free

theorem bindL_out {kindOf : Str → Option NameKind} {x : Str} : ∀ {binds : List (Str × Value)} {m : Str → Option Value}, (∀ v, (x, v) ∉ binds) → bindL kindOf binds m x = m x
  | [], _, _ => rfl
  | (n, v) :: r, m, h => by
    unfold bindL
    rw [bindL_out fun w hw => h w (List.mem_cons_of_mem _ hw)]
    split
    · have : x ≠ n := by rintro rfl; exact h v List.mem_cons_self
      simp [this]
    · rfl
theorem bindC_out {kindOf : Str → Option NameKind} {x : Str} : ∀ {binds : List (Str × Value)} {m : Str → Option Value}, (∀ v, (x, v) ∉ binds) → bindC kindOf binds m x = m x
  | [], _, _ => rfl
  | (n, v) :: r, m, h => by
    unfold bindC
    rw [bindC_out fun w hw => h w (List.mem_cons_of_mem _ hw)]
    split
    · rfl
    · have : x ≠ n := by rintro rfl; exact h v List.mem_cons_self
      simp [this]
theorem bindL_get {kindOf : Str → Option NameKind} {x : Str} {v : Value} : ∀ {P : List Str} {vs : List Value} {i : Nat} {m : Str → Option Value}, P.Nodup → P[i]? = some x → vs[i]? = some v → kindOf x = some .local →
    bindL kindOf (P.zip vs) m x = some v
  | [], _, _, _, _, h, _, _ => by simp at h
  | _ :: _, [], _, _, _, _, h, _ => by simp at h
  | p :: P, w :: vs, 0, m, nd, h1, h2, hk => by
    simp at h1 h2; subst h1; subst h2
    show bindL kindOf ((p, w) :: P.zip vs) m p = _
    unfold bindL
    rw [bindL_out fun v hv => (List.nodup_cons.mp nd).1 (List.of_mem_zip hv).1, if_pos hk]
    simp
  | p :: P, w :: vs, i + 1, m, nd, h1, h2, hk => by
    show bindL kindOf ((p, w) :: P.zip vs) m x = _
    unfold bindL
    exact bindL_get (i := i) (List.nodup_cons.mp nd).2 (by simpa using h1) (by simpa using h2) hk
theorem bindC_get {kindOf : Str → Option NameKind} {x : Str} {v : Value} : ∀ {P : List Str} {vs : List Value} {i : Nat} {m : Str → Option Value}, P.Nodup → P[i]? = some x → vs[i]? = some v → kindOf x ≠ some .local →
    bindC kindOf (P.zip vs) m x = some v
  | [], _, _, _, _, h, _, _ => by simp at h
  | _ :: _, [], _, _, _, _, h, _ => by simp at h
  | p :: P, w :: vs, 0, m, nd, h1, h2, hk => by
    simp at h1 h2; subst h1; subst h2
    show bindC kindOf ((p, w) :: P.zip vs) m p = _
    unfold bindC
    rw [bindC_out fun v hv => (List.nodup_cons.mp nd).1 (List.of_mem_zip hv).1, if_neg hk]
    simp
  | p :: P, w :: vs, i + 1, m, nd, h1, h2, hk => by
    show bindC kindOf ((p, w) :: P.zip vs) m x = _
    unfold bindC
    exact bindC_get (i := i) (List.nodup_cons.mp nd).2 (by simpa using h1) (by simpa using h2) hk

/-- the names' values at the entry -/
def start (N : List Str) (vs : List V) : St := vs.map some ++ List.replicate (N.length - vs.length) none

/-- the context of a def's body, at its entry; an exception leaves the frame, then lies as CX says -/
def cxOf (CX : CXT) (P : Program) (w : World) (K : PySem.W.Frag) (mg : Str → Option Value) (base : Heap) (N : List Str) (qual : Str) (scope : Scope) (f : Addr) (cd : Value) (A : Around) (outer : List Env) (s : Shared) (H : Hp) (E : XK) : Cx where
  prog := P
  w := w
  K := K
  mg := mg
  base := base
  A := A.deeper (envOfC qual scope s.heap.objs.size f cd)
  N := N
  s₀ := s
  H₀ := H
  env := envOfC qual scope s.heap.objs.size f cd
  outer := outer
  stack := envOfC qual scope s.heap.objs.size f cd :: outer
  ex := []
  calm := true
  fn := fun _ => true
  pn := []
  xe := fun e s' => wpAny (model P w) (A.deeper (envOfC qual scope s.heap.objs.size f cd)) (leaving (envOfC qual scope s.heap.objs.size f cd) e) (fun _ s'' => CX outer H s E e s'') (fun e' s'' => CX outer H s E e' s'') s'

theorem cell_has {sc : Scope} {n : Nat} {x : Str} (h : sc.names.lookup x = some .cell) : ∃ c, (cellsFrom n sc.names []).lookup x = some c := by
  have q := PySem.W.cellsFrom_some sc.names n [] (.inl h)
  exact Option.isSome_iff_exists.mp q

theorem inv_start {CX : CXT} {P : Program} {w : World} {K : PySem.W.Frag} {mg : Str → Option Value} {base : Heap} {N ps : List Str} {qual : Str} {scope : Scope} {f : Addr} {cd : Value} {A : Around} {outer : List Env} {s s1 : Shared} {H : Hp} {E : XK} {us : List Value} {vs : List V}
    (S : FnScope N ps scope) (hd : A.handled = none) (e0 : Env0 P w K mg base A outer s H) (hl : vs.length = ps.length) (r : Vals vs us)
    (x : InCallC s s.heap.objs.size (bindL (envOfC qual scope s.heap.objs.size f cd).kindOf (ps.zip us) fun _ => none) (cellsFrom (s.heap.objs.size + 1) scope.names []) (bindC (envOfC qual scope s.heap.objs.size f cd).kindOf (ps.zip us) fun _ => none) s1) :
    Inv (cxOf CX P w K mg base N qual scope f cd A outer s H E) [] (start N vs) H s1 := by
  have hpl : ps.length ≤ N.length := by have := congrArg List.length S.pre; rw [List.length_take] at this; omega
  obtain ⟨h1, tk, rfl, hk⟩ := x.done
  have noA : ∀ b : Addr, b ∉ (cxOf CX P w K mg base N qual scope f cd A outer s H E).ex := fun b z => absurd (show b ∈ ([] : List Addr) from z) (by simp)
  refine ⟨⟨e0.mod, S.kind, rfl, rfl, Nat.le_refl _, fun y z c h1 h2 => ?_, fun y hy => ?_, fun y c _ h => ?_, fun _ => hd, Around.frames_deeper e0.frames, .inr ⟨rfl, rfl⟩, fun b z => absurd z (noA b), e0.bs, e0.bsz, fun b _ _ => noA b, fun b z => absurd z (noA b), e0.funs, e0.frf⟩,
    rfl, e0.bare, Un.kept hk, ⟨_, x.toInCall.ns, fun i y v h1 h2 h3 => ?_⟩, fun y c h => ⟨_, x.cell y c h⟩, e0.hok.fresh (Nat.le_refl _), fun y c h => ?_, fun p hp => absurd (show p ∈ ([] : List (Addr × Obj)) from hp) (by simp), e0.hok.kept hk, ?_⟩
  · exact name_of_addr x.apart (PySem.mem_of_lookup h1) (PySem.mem_of_lookup h2)
  · have hy : scope.names.lookup y = some .cell ∨ scope.names.lookup y = some .free := hy
    rcases hy with hy | hy
    · exact cell_has hy
    · exact absurd rfl (S.nofree _ (PySem.mem_of_lookup hy))
  · exact Nat.le_of_lt (x.above y c (PySem.mem_of_lookup h))
  · have hi : i < vs.length := by
      unfold start at h2
      by_cases hi : i < vs.length
      · exact hi
      · rw [List.getElem?_append_right (by simpa using hi)] at h2
        rw [List.getElem?_replicate] at h2
        split at h2 <;> cases h2
    have ha : vs[i]? = some v := by
      unfold start at h2
      rw [List.getElem?_append_left (by simpa using hi), List.getElem?_map] at h2
      cases e : vs[i]? with
      | none => rw [e] at h2; cases h2
      | some a => rw [e] at h2; cases h2; rfl
    obtain ⟨u, hu, rv⟩ := r.get ha
    have hp : ps[i]? = some y := by
      rw [← S.pre, List.getElem?_take_of_lt (by omega)]; exact h1
    have ndP : ps.Nodup := by rw [← S.pre]; exact S.nd.sublist (List.take_sublist _ _)
    refine ⟨u, rv, ?_⟩
    rcases S.par y (List.mem_of_getElem? hp) with k | k
    · exact .inl ⟨k, bindL_get ndP hp hu k⟩
    · obtain ⟨c, e⟩ := cell_has (n := s.heap.objs.size + 1) k
      refine .inr ⟨.inl k, c, e, ?_⟩
      have q := x.cell y c e
      rw [bindC_get ndP hp hu (by show scope.names.lookup y ≠ _; rw [k]; decide)] at q
      exact q
  · exact e0.hok.fresh (Nat.le_of_lt (x.above y c (PySem.mem_of_lookup h)))
  · unfold start
    show _ = N.length
    rw [List.length_append, List.length_map, List.length_replicate]
    omega

/-- THE RULE: a def (or a method) of the text, by its body. The body's reading t is chosen for each entry; it is run at the parameters' values -/
theorem fn_of {CX : CXT} {P : Program} {w : World} {K : PySem.W.Frag} {mg : Str → Option Value} {base : Heap} {k : Nat} {f : Addr} {name qual : Str} {params : Arguments} {body : List Stmt} {scope : Scope} {dV kV doc pm cdv ct oc : Value} {an od : Option Addr}
    {osl : Array (Option Value)} {N ps : List Str} {sp : Sp} (lk : K.lookup f = some ⟨oc, od, .func (PySem.W.fnOf name qual params body scope dV kV doc pm an cdv ct), osl⟩) (hcd : PySem.W.codeIn K cdv qual = true) (S : FnScope N ps scope)
    (len : ∀ vs H Q E, sp vs H Q E → vs.length = ps.length)
    (hbody : ∀ (A : Around) (outer : List Env) (s : Shared) (H : Hp) (vs : List V) (Q : VK) (E : XK), Room k (A.deeper (envOfC qual scope s.heap.objs.size f cdv)) → sp vs H Q E →
      ∃ t, PSs (cxOf CX P w K mg base N qual scope f cdv A outer s H E) body t ∧ t { nx := fun _ H' => Q .non H', rt := Q } (start N vs) H) :
    FnOk P w K mg base CX (k + 1) f (PySem.W.fnOf name qual params body scope dV kV doc pm an cdv ct) ps sp := by
  refine ⟨len, fun A outer s H args us vs Q E hr e0 hb r hsp => ?_⟩
  have hl := len _ _ _ _ hsp
  have KX : K.In s.heap := e0.mod.kin.keeps fun b o e => (e0.bs b o e).1
  have lim : s.heap.NoLimit := e0.mod.nolimit.keeps fun b o e => (e0.bs b o e).1
  have hkind : ∀ y ∈ ps.zip us, scope.names.lookup y.1 = some .local ∨ (scope.names.lookup y.1 = some .cell ∧ ((cellsFrom (s.heap.objs.size + 1) scope.names []).lookup y.1).isSome = true) := fun ⟨n, v⟩ hy => by
    rcases S.par n (List.of_mem_zip hy).1 with q | q
    · exact .inl q
    · exact .inr ⟨q, PySem.W.cellsFrom_some _ _ _ (.inl q)⟩
  refine codeAny_call_function hr.depth (KX _ _ lk) rfl S.co S.gen rfl (PySem.W.codeRec_of KX hcd) (hb _ _ _ _ ?_)
  refine wpAny_newFunctionEnv_cells S.kind hkind fun env he s1 x => ?_
  subst he
  refine ⟨lim.keeps x.toInCall.keep, codeAny_func ?_⟩
  obtain ⟨t, ht, hq⟩ := hbody A outer s H vs Q E (hr.deeper _) hsp
  have I : Inv (cxOf CX P w K mg base N qual scope f cdv A outer s H E) [] (start N vs) H s1 := inv_start S hr.hd e0 hl r x
  refine wpAny_mono (ht [] s1 (start N vs) H _ I hq) (fun fl s' hs => ?_) fun e s' hs => hs
  have fin : ∀ {σ' : St} {H' : Hp} {v : V} {u : Value}, Inv (cxOf CX P w K mg base N qual scope f cdv A outer s H E) [] σ' H' s' → RelV v u → Q v H' → CE outer P w H s Q u s' :=
    fun {σ' H' v u} J rv q => ⟨v, H', J.os, J.bare, J.base, J.hok, rv, q⟩
  cases fl with
  | ret u =>
    obtain ⟨v, σ', H', J, rv, q⟩ := hs
    exact fin J rv q
  | next =>
    obtain ⟨σ', H', J, q⟩ := hs
    exact fin (v := V.non) (u := Value.none) J rfl q
  | brk =>
    obtain ⟨_, _, _, q⟩ := hs
    exact False.elim q
  | cont =>
    obtain ⟨_, _, _, q⟩ := hs
    exact False.elim q
end L2

namespace L2
open PySem PySem.Spec PyProof.Rows
section
variable {X : Cx} {x : Str} {p pos : Pos} {e : Expr} {es : List Expr} {t : TA} {id T : String} {r : List V → Hp → VK → Prop}

def tCB (r : List V → Hp → VK → Prop) (t : TA) : TE := fun σ H Q => t σ H fun vs H1 => r vs H1 Q
/-- f(e, ..), f a built-in function -/
theorem pe_callB (hc : CallR X (.builtin id) r) (hg : Gl X x) (hm : X.mg x = none) (hv : bootBuiltins x = some (.builtin id)) (ha : PA X (e :: es) t) (hn : x ≠ "__name__" := by decide) (hdb : (x == ("__debug__" : Str)) = false := by decide)
    (he : starEach (e :: es) X.env = (false, eval e X.env) :: starEach es X.env := by rfl) (hpl : (backTo pos (starEach es X.env)).any (·.1) = false := by rfl) : PE X (.Call (.Name x p) (e :: es) [] pos) (tCB r t) := by
  intro pins s σ H Q I h
  refine wpAny_Call_Name_kw (ld_blt I hg hm hv ?_ hn hdb)
  exact PyProof.Rows.callWith_builtin1 (thn (ha pos pins s σ H _ I h) fun us s1 ⟨vs, H1, I1, r1, q1⟩ => hc pins s1 σ H1 vs us Q I1 r1 q1) he hpl
/-- T(e, ..), T a built-in type -/
theorem pe_callTy (hc : CallR X (.type T) r) (hg : Gl X x) (hm : X.mg x = none) (hv : bootBuiltins x = some (.type T)) (ha : PA X (e :: es) t) (hn : x ≠ "__name__" := by decide) (hdb : (x == ("__debug__" : Str)) = false := by decide)
    (he : starEach (e :: es) X.env = (false, eval e X.env) :: starEach es X.env := by rfl) (hpl : (backTo pos (starEach es X.env)).any (·.1) = false := by rfl) : PE X (.Call (.Name x p) (e :: es) [] pos) (tCB r t) := by
  intro pins s σ H Q I h
  refine wpAny_Call_Name_kw (ld_blt I hg hm hv ?_ hn hdb)
  exact PyProof.Rows.callWith_type1 (thn (ha pos pins s σ H _ I h) fun us s1 ⟨vs, H1, I1, r1, q1⟩ => hc pins s1 σ H1 vs us Q I1 r1 q1) he hpl
end
end L2

namespace HT
open PySem PyProof.Rows

section
open PySem.SeqAt
open PySem.AutoSeq1 (wpAny_loadPart')
open PySem.MeetsSeq PySem.MeetsSeq2 PySem.MeetsSeq3

end

section
variable {prog : Program} {w : World} {A : Around} {E : Value → Shared → Prop} {s : Shared}

/-! ### t[a:b], not the whole -/
/-- a slice's bound as a place among n (d where it is left out) -/
def sIx (n d : Nat) : Option Int → Nat
  | none => d
  | some v => if v < 0 then (v + (n : Int)).toNat else min v.toNat n
theorem sIx_none (n d : Nat) : sIx n d none = d := rfl
theorem sIx_nat (n d k : Nat) : sIx n d (some (k : Int)) = min k n := by
  show (if (k : Int) < 0 then ((k : Int) + (n : Int)).toNat else min (k : Int).toNat n) = min k n
  rw [if_neg (by omega), Int.toNat_natCast]
end
end HT

namespace L2
open PySem PySem.Spec PyProof.Rows

/-! ### the parts of a slice -/
abbrev TO := St → Hp → (Option Int → Hp → Prop) → Prop
/-- a slice's part (left out, or an int) -/
def PO (X : Cx) (e : Option Expr) (t : TO) : Prop :=
  ∀ (pins : List (Addr × Obj)) (s : Shared) (σ : St) (H : Hp) (Q : Option Int → Hp → Prop), Inv X pins σ H s → t σ H Q →
    wpAny (model X.prog X.w) X.A (evalPart e X.env) (fun u s' => ∃ o H', Inv X pins σ H' s' ∧ IsPart u o ∧ Q o H') X.xe s
def tNoPart : TO := fun _ H Q => Q none H
def tPart (t : TE) : TO := fun σ H Q => t σ H fun x H1 => ∃ i, x = .int i ∧ Q (some i) H1

section
variable {X : Cx} {e : Expr} {te : TE} {lo hi : Option Expr} {tl th : TO} {pos p2 : Pos}

theorem po_none : PO X none tNoPart := by
  intro pins s σ H Q I h
  rw [evalPart_none]
  exact wpAny_pure ⟨none, H, I, .none, h⟩
theorem po_some (h : PE X e te) : PO X (some e) (tPart te) := by
  intro pins s σ H Q I hw
  rw [evalPart_some]
  refine thn (h pins s σ H _ I hw) fun u s1 ⟨x, H1, I1, r1, q1⟩ => ?_
  obtain ⟨i, rfl, q⟩ := q1
  obtain ⟨t, rfl⟩ := r1
  exact ⟨some i, H1, I1, .int i t, q⟩

/-- what a slice of a value is, by values: the slice object stands at sl -/
def SlR (X : Cx) (r : V → Option Int → Option Int → Hp → VK → Prop) : Prop :=
  ∀ (pins : List (Addr × Obj)) (s : Shared) (σ : St) (H : Hp) (x : V) (v vl vu : Value) (lo hi : Option Int) (sl : Addr) (Q : VK), Inv X pins σ H s → RelV x v → s.heap.IsSliceOf sl vl vu .none → IsPart vl lo → IsPart vu hi → r x lo hi H Q →
    ∃ T id, typeLookup (.type T) "__getitem__" = pure (some (.builtin id)) ∧ s.TypeIs v T ∧ wpAny (model X.prog X.w) X.A (getItem v (.ref sl)) (EP X pins σ Q) X.xe s
def tSl (r : V → Option Int → Option Int → Hp → VK → Prop) (te : TE) (tl th : TO) : TE := fun σ H Q => te σ H fun x H1 => tl σ H1 fun l H2 => th σ H2 fun u H3 => r x l u H3 Q
/-- a[lo:hi], any a -/
theorem pe_slice {r : V → Option Int → Option Int → Hp → VK → Prop} (hr : SlR X r) (he : PE X e te) (hl : PO X lo tl) (hu : PO X hi th) : PE X (.Subscript e (.Slice lo hi none p2) pos) (tSl r te tl th) := by
  intro pins s σ H Q I h
  refine Subscript_ (thn (he pins s σ H _ I h) fun v s1 ⟨x, H1, I1, r1, q1⟩ => ?_)
  refine wpAny_Slice (thn (hl pins s1 σ H1 _ I1 q1) fun vl s2 ⟨l, H2, I2, pl, q2⟩ => thn (hu pins s2 σ H2 _ I2 q2) fun vu s3 ⟨u, H3, I3, pu, q3⟩ => ?_)
  rw [evalPart_none]
  refine wpAny_pure ?_
  have I4 : Inv X pins σ H3 { s3 with heap := s3.heap.push { cls := .type "slice", data := .fields #[vl, vu, .none] } } := I3.kept (t' := s3.toks) fun b ob q => Heap.get?_push_of_some _ q
  obtain ⟨T, id, hT, ht, hg⟩ := hr pins { s3 with heap := s3.heap.push { cls := .type "slice", data := .fields #[vl, vu, .none] } } σ H3 x v vl vu l u s3.heap.objs.size Q I4 r1 (Heap.IsSliceOf.new ..) pl pu q3
  show wpAny (model X.prog X.w) X.A (subscriptTail e (.Slice lo hi none p2) v (.ref s3.heap.objs.size)) (EP X pins σ Q) X.xe { s3 with heap := s3.heap.push { cls := .type "slice", data := .fields #[vl, vu, .none] } }
  exact tail_any (ops := [.ref s3.heap.objs.size, v]) ht hT hg (by with_unfolding_all rfl)

/-- the items of xs[lo:hi] -/
def cutV (xs : List V) (lo hi : Option Int) : List V := (xs.drop (HT.sIx xs.length 0 lo)).take (HT.sIx xs.length xs.length hi - HT.sIx xs.length 0 lo)
theorem cutV_length (xs : List V) (lo hi : Option Int) : (cutV xs lo hi).length ≤ xs.length := by
  unfold cutV
  rw [List.length_take, List.length_drop]
  omega
/-! ### t < u, t + u -/
end
end L2

namespace L2
open PySem PySem.Spec PyProof.Rows

/-! ### places -/
/-- the place that an index of any sign means -/
def ixN (n : Nat) (i : Int) : Option Nat := if 0 ≤ i then (if i < n then some i.toNat else none) else if -(n : Int) ≤ i then some (i + n).toNat else none
def atI {α : Type} (xs : List α) (i : Int) : Option α := (ixN xs.length i).bind fun j => xs[j]?
theorem ixN_seq {n : Nat} {i : Int} {j : Nat} (h : ixN n i = some j) : seqIndex? i n = some j ∧ j < n ∧ -(n : Int) ≤ i ∧ i < n := by
  unfold ixN at h
  by_cases h0 : 0 ≤ i
  · rw [if_pos h0] at h
    by_cases h1 : i < n
    · rw [if_pos h1] at h
      have e : i.toNat = j := Option.some.inj h
      exact ⟨by rw [seqIndex_of h0 h1, e], by omega, by omega, h1⟩
    · rw [if_neg h1] at h; cases h
  · rw [if_neg h0] at h
    by_cases h1 : -(n : Int) ≤ i
    · rw [if_pos h1] at h
      have e : (i + n).toNat = j := Option.some.inj h
      exact ⟨by rw [seqIndex_neg (by omega) h1, e], by omega, h1, by omega⟩
    · rw [if_neg h1] at h; cases h
theorem atI_get {α : Type} {xs : List α} {i : Int} {v : α} (h : atI xs i = some v) : ∃ j, seqIndex? i xs.length = some j ∧ xs[j]? = some v ∧ j < xs.length ∧ -(xs.length : Int) ≤ i ∧ i < xs.length := by
  unfold atI at h
  cases e : ixN xs.length i with
  | none => rw [e] at h; cases h
  | some j =>
    rw [e] at h
    obtain ⟨h1, h2, h3, h4⟩ := ixN_seq e
    exact ⟨j, h1, h, h2, h3, h4⟩
theorem atI_nat {α : Type} {xs : List α} {j : Nat} {v : α} (h : xs[j]? = some v) : atI xs (j : Int) = some v := by
  have hj : j < xs.length := (List.getElem?_eq_some_iff.mp h).1
  have e : ixN xs.length (j : Int) = some j := by
    unfold ixN
    rw [if_pos (by omega), if_pos (by omega)]; simp
  unfold atI; rw [e]; exact h
/-! ### what may be subscripted -/
/-- what stands as an index of a plain subscript -/
def PlainIx (b : Expr) : Prop := ∀ o i, subscripted b false o i = operate [o, i] (getItem o i)
/-- a subscript by values -/
def IxR (X : Cx) (r : R2) : Prop :=
  ∀ (value slice : Expr) (pins : List (Addr × Obj)) (s : Shared) (σ : St) (H : Hp) (x y : V) (v u : Value) (Q : VK), Inv X pins σ H s → RelV x v → RelV y u → r x y H Q →
    subscripted slice false v u = operate [v, u] (getItem v u) → wpAny (model X.prog X.w) X.A (subscriptTail value slice v u) (EP X pins σ Q) X.xe s
/-- a call of a builtin's method by values: the receiver, the arguments -/
def MtR (X : Cx) (id : String) (r : V → List V → Hp → VK → Prop) : Prop :=
  ∀ (pins : List (Addr × Obj)) (s : Shared) (σ : St) (H : Hp) (x : V) (xs : List V) (v : Value) (us : List Value) (Q : VK), Inv X pins σ H s → RelV x v → Vals xs us → r x xs H Q →
    wpAny (model X.prog X.w) X.A (call (.builtin id) (v :: us)) (EP X pins σ Q) X.xe s
section
variable {X : Cx} {a b : Expr} {ta tb : TE} {pos : Pos}
/-- a[b] -/
theorem pe_ix {r : R2} (hr : IxR X r) (ha : PE X a ta) (hb : PE X b tb) (hs : PlainIx b) : PE X (.Subscript a b pos) (tOp r ta tb) := by
  intro pins s σ H Q I h
  exact Subscript_ (binT ha hb I h fun v u s2 x y H2 I2 rx ry q => hr a b pins s2 σ H2 x y v u Q I2 rx ry q (hs _ _))

def rIxL (K : PySem.W.Frag) : R2 := fun x y H Q => ∃ p xs i v, x = .ref p ∧ y = .int i ∧ SqL K H p xs ∧ atI xs i = some v ∧ Q v H
def rIxT (K : PySem.W.Frag) : R2 := fun x y H Q => ∃ p xs i v, x = .ref p ∧ y = .int i ∧ SqT K H p xs ∧ atI xs i = some v ∧ Q v H
theorem ix_list : IxR X (rIxL X.K) := by
  intro value slice pins s σ H x y v u Q I rx ry h hs
  obtain ⟨p, xs, i, z, rfl, rfl, hq, he, q⟩ := h
  cases rx
  obtain ⟨t, rfl⟩ := ry
  obtain ⟨its, r, pl, hz⟩ := I.list hq
  obtain ⟨j, h1, h2, h3, h4, h5⟩ := atI_get he
  obtain ⟨w, ew, rw'⟩ := r.get h2
  have hl := r.length
  have hn := line63
  have fin : EP X pins σ Q w s := ⟨z, H, I, rw', q⟩
  by_cases h0 : 0 ≤ i
  · have hj : i.toNat = j := by
      rw [seqIndex_of h0 h5] at h1
      exact Option.some.inj h1
    exact item_listR pl.isList h0 (by omega) (by rw [hj]; simpa using ew) fin hs
  · have hj : (i + (its.toArray.size : Int)).toNat = j := by
      rw [seqIndex_neg (by omega) h4] at h1
      rw [List.size_toArray, ← hl]
      exact Option.some.inj h1
    exact subscriptTail_builtinR (x := w) pl.isList.typeIs slot_list_getitem.lookup
      (wpAny_getItem_list_neg (Q := fun r s' => r = w ∧ EP X pins σ Q r s') pl.isList (by omega) (by rw [List.size_toArray] <;> omega) (by omega) (by rw [hj]; simpa using ew) ⟨rfl, fin⟩) hs
theorem ix_tup : IxR X (rIxT X.K) := by
  intro value slice pins s σ H x y v u Q I rx ry h hs
  obtain ⟨p, xs, i, z, rfl, rfl, hq, he, q⟩ := h
  cases rx
  obtain ⟨t, rfl⟩ := ry
  obtain ⟨its, r, pl, hz⟩ := I.tuple hq
  obtain ⟨j, h1, h2, h3, h4, h5⟩ := atI_get he
  obtain ⟨w, ew, rw'⟩ := r.get h2
  have hl := r.length
  have hn := line63
  have fin : EP X pins σ Q w s := ⟨z, H, I, rw', q⟩
  exact subscriptTail_builtinR (x := w) pl.typeIs slot_tuple_getitem.lookup
    (getItem_tuple (j := j) (Q := fun r s' => r = w ∧ EP X pins σ Q r s') pl (by omega) (by omega) (by rw [List.size_toArray, ← hl]; exact h1) (by simpa using ew) ⟨rfl, fin⟩) hs
/-! ### xs[i] = v, any sign -/
/-- the list's object behind a store -/
theorem mapSeq_set (its : List Value) (n j : Nat) (u : Value) : Obj.mapSeq (·.setIfInBounds j u) { cls := .type "list", data := .seq its.toArray n } = { cls := .type "list", data := .seq (its.set j u).toArray n } := by
  simp [Obj.mapSeq]
theorem Inv.lst {pins : List (Addr × Obj)} {σ : St} {H : Hp} {s : Shared} {p : Addr} {xs : List V} (I : Inv X pins σ H s) (h : H p = some (.lst xs)) :
    ∃ (its : List Value) (n : Nat), Vals xs its ∧ s.heap.get? p = some { cls := .type "list", data := .seq its.toArray n } ∧ xs.length ≤ sizeLine := by
  obtain ⟨z, its, n, r, e⟩ := I.hok p _ h
  exact ⟨its, n, r, e, z⟩
/-- the list at p is written by an update of its object -/
theorem Inv.lstUpd {pins : List (Addr × Obj)} {σ : St} {H : Hp} {s : Shared} {p : Addr} {xs ys : List V} {its its' : List Value} {n n' : Nat} {f : Obj → Obj} (I : Inv X pins σ H s) (h : H p = some (.lst xs))
    (ho : s.heap.get? p = some { cls := .type "list", data := .seq its.toArray n }) (hf : f { cls := .type "list", data := .seq its.toArray n } = { cls := .type "list", data := .seq its'.toArray n' }) (r : Vals ys its') (hz : ys.length ≤ sizeLine) (t : Nat) :
    Inv X pins σ (upd H p (.lst ys)) { s with heap := s.heap.update p f, toks := t } := by
  have e : (s.heap.update p f).get? p = some { cls := .type "list", data := .seq its'.toArray n' } := by
    rw [Heap.get?_update_self f ho (by rw [hf] <;> rfl), hf]
  refine I.write (x := p) (e := p) (by rw [h]; trivial) (.inl rfl) (fun b u hb q => (Heap.get?_update_other _ _ (Ne.symm hb)).trans q) ⟨_, e⟩ ?_
  exact ⟨hz, its', n', r, e⟩
def rSetL : V → V → V → Hp → (Hp → Prop) → Prop := fun o i v H Q => ∃ p xs k j, o = .ref p ∧ i = .int k ∧ H p = some (.lst xs) ∧ ixN xs.length k = some j ∧ Q (upd H p (.lst (xs.set j v)))
theorem set_list : PSet X rSetL := by
  intro pins s σ H o i v ov iv u Q I ro ri rv h
  obtain ⟨p, xs, k, j, rfl, rfl, hp, hj, q⟩ := h
  cases ro
  obtain ⟨t, rfl⟩ := ri
  obtain ⟨its, n, r, ho, hz⟩ := I.lst hp
  obtain ⟨h1, h2, h3, h4⟩ := ixN_seq hj
  have hl := r.length
  have hn := line63
  have I' : Inv X pins σ (upd H p (.lst (xs.set j v))) { s with heap := s.heap.update p (Obj.mapSeq (·.setIfInBounds j u)) } :=
    I.lstUpd hp ho (mapSeq_set its n j u) (r.set rv j) (by rw [List.length_set]; exact hz) s.toks
  by_cases h0 : 0 ≤ k
  · have hk : k.toNat = j := by
      rw [seqIndex_of h0 h4] at h1
      exact Option.some.inj h1
    exact PySem.W.ki_setAt ho h0 (by omega) (by rw [List.size_toArray, ← hl]; exact h4) (by rw [hk]; exact ⟨_, I', q⟩)
  · have hk : (k + (its.toArray.size : Int)).toNat = j := by
      rw [seqIndex_neg (by omega) h3] at h1
      rw [List.size_toArray, ← hl]
      exact Option.some.inj h1
    exact PySem.W.ki_setBack ho (by omega) (by rw [List.size_toArray, ← hl]; exact h3) (by omega) (by rw [hk]; exact ⟨_, I', q⟩)

/-! ### slices -/
theorem slice_bounds (lo hi : Option Int) (n : Nat) : (sliceBounds lo hi none n).1 = ((HT.sIx n 0 lo : Nat) : Int) ∧ (sliceBounds lo hi none n).2.1 = ((HT.sIx n n hi : Nat) : Int) ∧ (sliceBounds lo hi none n).2.2 = 1 := by
  refine ⟨?_, ?_, rfl⟩
  · cases lo with
    | none => simp [sliceBounds, HT.sIx]
    | some i =>
      simp only [sliceBounds, HT.sIx, Option.getD_none, show (1 : Int) > 0 by decide, if_true]
      by_cases h : i < 0
      · simp only [h, if_true] <;> omega
      · simp only [h, if_false] <;> omega
  · cases hi with
    | none => simp [sliceBounds, HT.sIx]
    | some i =>
      simp only [sliceBounds, HT.sIx, Option.getD_none, show (1 : Int) > 0 by decide, if_true]
      by_cases h : i < 0
      · simp only [h, if_true] <;> omega
      · simp only [h, if_false] <;> omega
theorem slicePick_cut (its : List Value) (lo hi : Option Int) : slicePick its.toArray lo hi none = ((its.drop (HT.sIx its.length 0 lo)).take (HT.sIx its.length its.length hi - HT.sIx its.length 0 lo)).toArray := by
  obtain ⟨h1, h2, h3⟩ := slice_bounds lo hi its.toArray.size
  unfold slicePick
  rw [h1, h2, h3]
  simp only [sliceRange_one, pick_run, List.size_toArray] <;> rfl
/-- xs[lo:hi] of a list: a new list -/
def rSlL (K : PySem.W.Frag) : V → Option Int → Option Int → Hp → VK → Prop := fun x lo hi H Q => ∃ a xs, x = .ref a ∧ SqL K H a xs ∧ ∀ p, H p = none → Q (.ref p) (upd H p (.lst (cutV xs lo hi)))
theorem sl_list : SlR X (rSlL X.K) := by
  intro pins s σ H x v vl vu lo hi sl Q I rx hs pl pu h
  obtain ⟨a, xs, rfl, hx, q⟩ := h
  cases rx
  obtain ⟨its, r, ht, hz⟩ := I.list hx
  have hlen := r.length
  refine ⟨"list", _, slot_list_getitem.lookup, ht.isList.typeIs, ?_⟩
  refine wpAny_getItem_list_slice ht.isList hs pl pu .none (by simp) ?_ (by rw [List.size_toArray] <;> omega)
  rw [slicePick_cut, ← hlen]
  refine ⟨.ref s.heap.objs.size, _, I.laid (t' := s.toks) (o := .lst (cutV xs lo hi)) (fun b ob q => Heap.get?_push_of_some _ q) (Nat.le_refl _) ?_, rfl, q _ (I.hok.fresh (Nat.le_refl _))⟩
  exact ⟨Nat.le_trans (cutV_length xs lo hi) hz, _, 0, (r.drop (HT.sIx xs.length 0 lo)).take (HT.sIx xs.length xs.length hi - HT.sIx xs.length 0 lo), Heap.get?_push_size _ rfl⟩

/-! ### in, not in: flat items -/
def flatV : V → Bool
  | .non => true
  | .bl _ => true
  | .int _ => true
  | .str _ => true
  | _ => false
/-- == of flat values -/
def eqV : V → V → Bool
  | .non, .non => true
  | .bl a, .bl b => a == b
  | .bl a, .int b => (if a then 1 else 0) == b
  | .int a, .bl b => a == (if b then 1 else 0)
  | .int a, .int b => a == b
  | .str a, .str b => a == b
  | _, _ => false
theorem eqAt_V {A : Around} {s : Shared} {y x : V} {u v : Value} (ry : RelV y u) (rx : RelV x v) (fy : flatV y = true) (fx : flatV x = true) : SeqAt.EqAt A s u v (eqV y x) := by
  cases y with
  | non =>
    cases ry
    cases x with
    | non => cases rx; exact SeqAt.EqAt.same _
    | bl b => cases rx; exact SeqAt.EqAt.none_bool b
    | int b => obtain ⟨t, rfl⟩ := rx; exact SeqAt.EqAt.none_int b t
    | str b => obtain ⟨t, rfl⟩ := rx; exact SeqAt.EqAt.none_str b t
    | _ => exact absurd (show false = true from fx) Bool.false_ne_true
  | bl a =>
    cases ry
    cases x with
    | non => cases rx; exact SeqAt.EqAt.bool_none a
    | bl b => cases rx; exact SeqAt.EqAt.bool_bool a b
    | int b => obtain ⟨t, rfl⟩ := rx; exact SeqAt.EqAt.bool_int a b t
    | str b => obtain ⟨t, rfl⟩ := rx; exact SeqAt.EqAt.bool_str a b t
    | _ => exact absurd (show false = true from fx) Bool.false_ne_true
  | int a =>
    obtain ⟨t', rfl⟩ := ry
    cases x with
    | non => cases rx; exact SeqAt.EqAt.int_none a t'
    | bl b => cases rx; exact SeqAt.EqAt.int_bool a t' b
    | int b => obtain ⟨t, rfl⟩ := rx; exact SeqAt.EqAt.int_int a t' b t
    | str b => obtain ⟨t, rfl⟩ := rx; exact SeqAt.EqAt.int_str a t' b t
    | _ => exact absurd (show false = true from fx) Bool.false_ne_true
  | str a =>
    obtain ⟨t', rfl⟩ := ry
    cases x with
    | non => cases rx; exact SeqAt.EqAt.str_none a t'
    | bl b => cases rx; exact SeqAt.EqAt.str_bool a t' b
    | int b => obtain ⟨t, rfl⟩ := rx; exact SeqAt.EqAt.str_int a t' b t
    | str b => obtain ⟨t, rfl⟩ := rx; exact SeqAt.EqAt.str_str a t' b t
    | _ => exact absurd (show false = true from fx) Bool.false_ne_true
  | _ => exact absurd (show false = true from fy) Bool.false_ne_true
/-- the items' answers, read off the values (a value's own answer does not lean on its token) -/
def eqU (x : V) (u : Value) : Bool := match u with
  | .none => eqV .non x
  | .bool b => eqV (.bl b) x
  | .int i _ => eqV (.int i) x
  | .str z _ => eqV (.str z) x
  | _ => false
theorem eqU_of {x y : V} {u : Value} (r : RelV y u) (f : flatV y = true) : eqU x u = eqV y x := by
  cases y with
  | non => cases r; rfl
  | bl b => cases r; rfl
  | int i => obtain ⟨t, rfl⟩ := r; rfl
  | str z => obtain ⟨t, rfl⟩ := r; rfl
  | _ => exact absurd (show false = true from f) Bool.false_ne_true
theorem any_eqU {x : V} : ∀ {xs : List V} {us : List Value}, Vals xs us → xs.all flatV = true → us.any (eqU x) = xs.any fun y => eqV y x
  | _, _, .nil, _ => rfl
  | y :: xs, u :: us, .cons r t, f => by
    rw [List.all_cons, Bool.and_eq_true] at f
    rw [List.any_cons, List.any_cons, eqU_of r f.1, any_eqU t f.2]
theorem mem_eqAt {A : Around} {s : Shared} {x : V} {v : Value} (rx : RelV x v) (fx : flatV x = true) : ∀ {xs : List V} {us : List Value}, Vals xs us → xs.all flatV = true → ∀ u ∈ us, SeqAt.EqAt A s u v (eqU x u)
  | _, _, .nil, _ => fun u hu => by cases hu
  | y :: xs, u :: us, .cons r t, f => fun u' hu => by
    rw [List.all_cons, Bool.and_eq_true] at f
    rcases List.mem_cons.mp hu with rfl | hu
    · rw [eqU_of r f.1]; exact eqAt_V r rx f.1 fx
    · exact mem_eqAt rx fx t f.2 u' hu
def inV (x : V) (xs : List V) : Bool := xs.any fun y => eqV y x
/-- x in a list or tuple of flat items -/
def rIn (K : PySem.W.Frag) (neg : Bool) : R2 := fun x y H Q => ∃ p xs, y = .ref p ∧ (SqL K H p xs ∨ SqT K H p xs) ∧ flatV x = true ∧ xs.all flatV = true ∧ Q (.bl (if neg then !inV x xs else inV x xs)) H
theorem op_in_seq : OpR X (compareOp .In) (rIn X.K false) := by
  intro pins s σ H x y v u Q I rx ry h
  obtain ⟨p, xs, rfl, hq, fx, fs, q⟩ := h
  cases ry
  rcases hq with hq | hq
  · obtain ⟨its, r, pl, hz⟩ := I.list hq
    refine SeqAt.in_listAt (eqU x) pl.isList (fun w hw => mem_eqAt rx fx r fs w (by simpa using hw)) ⟨.bl _, H, I, rfl, ?_⟩
    rw [show its.toArray.any (eqU x) = its.any (eqU x) by simp, any_eqU r fs]
    exact q
  · obtain ⟨its, r, pl, hz⟩ := I.tuple hq
    refine SeqAt.in_tupleAt (eqU x) pl (fun w hw => mem_eqAt rx fx r fs w (by simpa using hw)) ⟨.bl _, H, I, rfl, ?_⟩
    rw [show its.toArray.any (eqU x) = its.any (eqU x) by simp, any_eqU r fs]
    exact q
theorem op_notIn_seq : OpR X (compareOp .NotIn) (rIn X.K true) := by
  intro pins s σ H x y v u Q I rx ry h
  obtain ⟨p, xs, rfl, hq, fx, fs, q⟩ := h
  cases ry
  rcases hq with hq | hq
  · obtain ⟨its, r, pl, hz⟩ := I.list hq
    refine SeqAt.notIn_listAt (eqU x) pl.isList (fun w hw => mem_eqAt rx fx r fs w (by simpa using hw)) ⟨.bl _, H, I, rfl, ?_⟩
    rw [show its.toArray.any (eqU x) = its.any (eqU x) by simp, any_eqU r fs]
    exact q
  · obtain ⟨its, r, pl, hz⟩ := I.tuple hq
    refine SeqAt.notIn_tupleAt (eqU x) pl (fun w hw => mem_eqAt rx fx r fs w (by simpa using hw)) ⟨.bl _, H, I, rfl, ?_⟩
    rw [show its.toArray.any (eqU x) = its.any (eqU x) by simp, any_eqU r fs]
    exact q
/-! ### len, list(x), tuple(x) of any list or tuple that is read -/
theorem call_len_seq : CallR X (.builtin "len") (fun xs H Q => ∃ p ys, xs = [.ref p] ∧ (SqL X.K H p ys ∨ SqT X.K H p ys) ∧ Q (.int ys.length) H) := by
  intro pins s σ H xs us Q I r h
  obtain ⟨p, ys, rfl, hq, q⟩ := h
  obtain ⟨u, rfl, rx⟩ := vals1 r
  cases rx
  have hn := line63
  rcases hq with hq | hq
  · obtain ⟨its, r', pl, hz⟩ := I.list hq
    have hlen := r'.length
    exact Calls.call_len_list pl.isList (by simp only [List.size_toArray] <;> omega) ⟨.int ys.length, H, I.tok _, ⟨s.toks + 1, by rw [List.size_toArray, hlen]⟩, q⟩
  · obtain ⟨its, r', pl, hz⟩ := I.tuple hq
    have hlen := r'.length
    exact len_tuple pl (by simp only [List.size_toArray] <;> omega) ⟨.int ys.length, H, I.tok _, ⟨s.toks + 1, by rw [List.size_toArray, hlen]⟩, q⟩
theorem call_list_of : CallR X (.type "list") (fun xs H Q => ∃ p ys, xs = [.ref p] ∧ (SqL X.K H p ys ∨ SqT X.K H p ys) ∧ ∀ l, H l = none → Q (.ref l) (upd H l (.lst ys))) := by
  intro pins s σ H xs us Q I r h
  obtain ⟨p, ys, rfl, hq, q⟩ := h
  obtain ⟨u, rfl, rx⟩ := vals1 r
  cases rx
  have fin : ∀ (its : List Value), Vals ys its → ys.length ≤ sizeLine → ∀ (h' : Heap) (c' : Nat), (∀ b o', s.heap.get? b = some o' → h'.get? b = some o') →
      h'.get? s.heap.objs.size = some { cls := .type "list", dict := none, data := .seq its.toArray c', slots := #[] } → EP X pins σ Q (.ref s.heap.objs.size) { s with heap := h' } := fun its r' hz h' c' kp e =>
    ⟨.ref s.heap.objs.size, _, I.laid (t' := s.toks) kp (Nat.le_refl _) (show ObjOk X.prog X.w _ h' _ (.lst ys) from ⟨hz, its, c', r', e⟩), rfl, q _ (I.hok.fresh (Nat.le_refl _))⟩
  rcases hq with hq | hq
  · obtain ⟨its, r', pl, hz⟩ := I.list hq
    have hlen := r'.length
    obtain ⟨o, ho, hc, n, hd⟩ := pl.isList
    exact call_list_seq p (.inl rfl) ho hc hd (fun h' c' kp e => fin its r' hz h' c' kp e) (by simp only [List.size_toArray] <;> omega)
  · obtain ⟨its, r', pl, hz⟩ := I.tuple hq
    have hlen := r'.length
    obtain ⟨o, ho, hc, n, hd⟩ := pl
    exact call_list_seq p (.inr rfl) ho hc hd (fun h' c' kp e => fin its r' hz h' c' kp e) (by simp only [List.size_toArray] <;> omega)
/-! ### the call of a builtin's method: o.m(..) -/
/-- the value is of that builtin type -/
def tyV (K : PySem.W.Frag) (T : String) (x : V) (H : Hp) : Prop := match x with
  | .str _ => T = "str"
  | .int _ => T = "int"
  | .ref p => (T = "list" ∧ ∃ xs, SqL K H p xs) ∨ (T = "tuple" ∧ ∃ o, K.lookup p = some o ∧ o.cls = .type "tuple" ∧ o.dict = none) ∨
      (T = "dict" ∧ ((∃ kvs, H p = some (.dK kvs)) ∨ ∃ kvs, H p = some (.dT kvs))) ∨ (T = "set" ∧ ∃ S n, H p = some (.set S n))
  | _ => False
theorem tyV_is {pins : List (Addr × Obj)} {σ : St} {H : Hp} {s : Shared} {T : String} {x : V} {v : Value} (I : Inv X pins σ H s) (r : RelV x v) (ty : tyV X.K T x H) :
    s.TypeIs v T ∧ ∀ a, v = .ref a → ∃ ob, s.heap.get? a = some ob ∧ ob.dict = none := by
  cases x with
  | str z =>
    obtain ⟨t, rfl⟩ := r
    cases (show T = "str" from ty)
    exact ⟨typeIs_str s z t, fun _ e => nomatch e⟩
  | int i =>
    obtain ⟨t, rfl⟩ := r
    cases (show T = "int" from ty)
    exact ⟨typeIs_int s i t, fun _ e => nomatch e⟩
  | ref p =>
    cases r
    rcases ty with ⟨rfl, xs, hq⟩ | ⟨rfl, o, hk, hc, hd⟩ | ⟨rfl, hk⟩ | ⟨rfl, S, n, hk⟩
    · obtain ⟨its, _, pl, _⟩ := I.list hq
      refine ⟨pl.isList.typeIs, fun a e => ?_⟩
      cases e
      obtain ⟨o, n, e, c, hd, _⟩ := pl
      exact ⟨o, e, hd⟩
    · refine ⟨⟨o, I.kIn p o hk, hc⟩, fun a e => ?_⟩
      cases e
      exact ⟨o, I.kIn _ o hk, hd⟩
    · have z : ∃ o, s.heap.get? p = some o ∧ o.ExactDict := by
        rcases hk with ⟨kvs, hk⟩ | ⟨kvs, hk⟩
        · obtain ⟨_, _, _, _, o, _, _, e, ex, _⟩ := I.hok p _ hk
          exact ⟨o, e, ex⟩
        · obtain ⟨_, _, _, _, o, _, _, e, ex, _⟩ := I.hok p _ hk
          exact ⟨o, e, ex⟩
      obtain ⟨o, e, ex⟩ := z
      refine ⟨⟨o, e, ex.1⟩, fun a e2 => ?_⟩
      cases e2
      exact ⟨o, e, ex.2.1⟩
    · obtain ⟨o, _, _, _, e, ex, _⟩ := I.hok p _ hk
      refine ⟨⟨o, e, ex.1⟩, fun a e2 => ?_⟩
      cases e2
      exact ⟨o, e, ex.2.1⟩
  | _ => exact False.elim ty
def tBM (K : PySem.W.Frag) (T : String) (r : V → List V → Hp → VK → Prop) (to : TE) (t : TA) : TE := fun σ H Q => to σ H fun x H1 => tyV K T x H1 ∧ t σ H1 fun xs H2 => r x xs H2 Q
variable {o e : Expr} {es : List Expr} {to : TE} {t : TA} {name : Str} {apos cpos : Pos} {T id : String} {r : V → List V → Hp → VK → Prop}
theorem pe_bm (pa : PlainAttrs T) (slot : Slot T name id) (hty : typeOf (.builtin id) = pure (.type "method_descriptor")) (hm : MtR X id r) (ho : PE X o to) (ha : PA X (e :: es) t)
    (hbase : attributeBase o name X.env (eval o X.env) = eval o X.env := by rfl)
    (hfew : ((backTo cpos (starEach (e :: es) X.env)).all (fun x => !x.1) && (backToKw cpos (keywordEach [] X.env)).all (fun x => x.1.isSome)
      && decide ((e :: es).length + ([] : List Keyword).length + (if ([] : List Keyword).isEmpty then 0 else 1) < 30)) = true := by rfl)
    (hline : (apos.endLine == cpos.line) = true := by rfl) (hs : starEach (e :: es) X.env = (false, eval e X.env) :: starEach es X.env := by rfl) (hplain : (backTo cpos (starEach es X.env)).any (·.1) = false := by rfl) :
    PE X (.Call (.Attribute o name apos) (e :: es) [] cpos) (tBM X.K T r to t) := by
  intro pins s σ H Q I h
  refine wpAny_Call_method_late hbase hfew hline rfl (thn (ho pins s σ H _ I h) fun v s1 ⟨x, H1, I1, r1, ty, q1⟩ => ?_)
  obtain ⟨h1, h2⟩ := tyV_is I1 r1 ty
  refine ⟨T, id, pa, slot, hty, h1, h2, ?_⟩
  have hA := ha cpos pins s1 σ H1 _ I1 q1
  rw [hs] at hA ⊢
  refine Calls.callWith_builtin (by show (false || (backTo cpos (starEach es X.env)).any (·.1)) = false; rw [hplain] <;> rfl) (Calls.evalArgs_plain ?_)
  exact thn hA fun us s2 ⟨vs, H2, I2, r2, q2⟩ => hm pins s2 σ H2 x vs v us Q I2 r1 r2 q2
/- xs.append(e), list.index on a module's tuple .. are MtR facts of 06m -/
end
end L2

namespace L2
open PySem PySem.Spec PyProof.Rows

def MtM (X : Cx) (id : String) (r : V → List V → Hp → VK → Prop) : Prop :=
  ∀ (pins : List (Addr × Obj)) (s : Shared) (σ : St) (H : Hp) (x : V) (xs : List V) (v : Value) (us : List Value) (Q : VK), Inv X pins σ H s → RelV x v → Vals xs us → r x xs H Q →
    wpAny (model X.prog X.w) X.A (call (.builtin id) (v :: us)) (EP X pins σ Q) X.xe s

/-! ### lists of values -/
theorem Vals.one : ∀ {x : V} {us : List Value}, Vals [x] us → ∃ u, us = [u] ∧ RelV x u
  | _, _, .cons r .nil => ⟨_, rfl, r⟩
theorem Vals.two : ∀ {x y : V} {us : List Value}, Vals [x, y] us → ∃ u v, us = [u, v] ∧ RelV x u ∧ RelV y v
  | _, _, _, .cons r (.cons q .nil) => ⟨_, _, rfl, r, q⟩
section
variable {X : Cx} {pins : List (Addr × Obj)} {σ : St} {H : Hp} {s : Shared} {l b : Addr} {xs ys zs : List V}

/-! ### the two steps: a tracked list is rewritten, a new list is laid -/
theorem Inv.lset {its its' : List Value} {n : Nat} {f : Array Value → Array Value} {t' : Nat} (I : Inv X pins σ H s) (hH : H l = some (.lst xs))
    (e : s.heap.get? l = some { cls := .type "list", data := .seq its.toArray n }) (hf : f its.toArray = its'.toArray) (hv : Vals ys its') (hz : ys.length ≤ sizeLine) :
    Inv X pins σ (upd H l (.lst ys)) { s with heap := s.heap.update l (Obj.mapSeq f), toks := t' } := by
  have q := PySem.IsL.update e f
  rw [hf] at q
  refine I.write (x := l) (e := l) (by rw [hH]; exact trivial) (.inl rfl) (fun b' u hb hu => (Heap.get?_update_other s.heap (Obj.mapSeq f) (Ne.symm hb)).trans hu) ⟨_, q⟩ ?_
  exact ⟨hz, its', _, hv, q⟩
theorem Inv.lnew {its : List Value} {t' : Nat} (I : Inv X pins σ H s) (hv : Vals ys its) (hz : ys.length ≤ sizeLine) :
    Inv X pins σ (upd H s.heap.objs.size (.lst ys)) { s with heap := s.heap.push { cls := .type "list", data := .seq its.toArray }, toks := t' } :=
  I.laid (fun _ _ q => Heap.get?_push_of_some _ q) (Nat.le_refl _) ⟨hz, its, 0, hv, Heap.get?_push_size _ rfl⟩
theorem Inv.fresh (I : Inv X pins σ H s) : H s.heap.objs.size = none := I.hok.fresh (Nat.le_refl _)
theorem Inv.lstM (I : Inv X pins σ H s) (hH : H l = some (.lst xs)) : xs.length ≤ sizeLine ∧ ∃ (its : List Value) (n : Nat), Vals xs its ∧ xs.length = its.length ∧ s.heap.get? l = some { cls := .type "list", data := .seq its.toArray n } := by
  obtain ⟨z, its, n, r, e⟩ := I.hok l _ hH
  exact ⟨z, its, n, r, r.length, e⟩

end

section
variable {X : Cx}

/-! ### methods -/
def rAppend : V → List V → Hp → VK → Prop := fun x vs H Q => ∃ l xs y, x = .ref l ∧ vs = [y] ∧ H l = some (.lst xs) ∧ xs.length < sizeLine ∧ Q .non (upd H l (.lst (xs ++ [y])))
theorem mt_append : MtM X "list.append" rAppend := by
  intro pins s σ H x vs v us Q I rx rv h
  obtain ⟨l, xs, y, rfl, rfl, hH, hz, q⟩ := h
  cases rx
  obtain ⟨u, rfl, ru⟩ := rv.one
  obtain ⟨z, its, n, r, hl, e⟩ := I.lstM hH
  refine call_meets F.slot_list_append ⟨_, e, rfl⟩ F.entry_list_append (F.args_list_append_2 _ _) (PySem.list_append l its.toArray n u (by rw [List.size_toArray]; omega)) ⟨e, ?_⟩
  refine ⟨.non, _, I.lset (its' := its ++ [u]) hH e (by simp) (r.append (.cons ru .nil)) ?_, rfl, q⟩
  rw [List.length_append, List.length_singleton]
  omega

/-! ### list + list, list += list, list * int -/
def rCat : R2 := fun x y H Q => ∃ l b xs zs, x = .ref l ∧ y = .ref b ∧ H l = some (.lst xs) ∧ H b = some (.lst zs) ∧ xs.length + zs.length ≤ sizeLine ∧ ∀ p, H p = none → Q (.ref p) (upd H p (.lst (xs ++ zs)))
theorem op_cat : OpR X (binaryOp .Add) rCat := by
  intro pins s σ H x y v u Q I rx ry h
  obtain ⟨l, b, xs, zs, rfl, rfl, hH, hB, hz, q⟩ := h
  cases rx
  cases ry
  obtain ⟨z, its, n, r, hl, e⟩ := I.lstM hH
  obtain ⟨z2, its2, n2, r2, hl2, e2⟩ := I.lstM hB
  refine PySem.P.add_list e e2 ?_ (by rw [List.size_toArray, List.size_toArray]; omega)
  have ea : its.toArray ++ its2.toArray = (its ++ its2).toArray := by simp
  rw [ea]
  exact ⟨.ref _, _, I.lnew (t' := s.toks) (r.append r2) (by rw [List.length_append]; omega), rfl, q _ I.fresh⟩
/-! ### del xs[i] -/
end

/-! ### xs[a:b] = ys -/
section
variable {prog : Program} {w : World} {A : Around} {E : Value → Shared → Prop} {s : Shared}
end

section
variable {X : Cx}
end
end L2

namespace Att
open PySem PySem.W PySem.Calls PyProof.Rows

/-! ### the script -/
theorem ints_of_wellAll {P : Params} {h : Heap} : ∀ (ns : List Int) (vs : List Value), WellAll P h vs (ns.map WData.int) → IntsAre vs ns := by
  intro ns
  induction ns with
  | nil =>
    intro vs w
    rw [List.map_nil] at w
    cases w
    exact .nil
  | cons n ns ih =>
    intro vs w
    rw [List.map_cons] at w
    cases w with
    | cons a b =>
      cases a
      exact .cons _ _ (ih _ b)

theorem script_of {l : OpenLaw} {n : Nat} (hn : l.most = some n) {P : Params} {h : Heap} {args : List WData} {vals : List Value}
    (hpre : l.row.toRowW.claim.pre args = true) (hwl : WellAll P h vals args) :
    ∃ a vs ns, vals = [Value.ref a] ∧ args = [WData.list (ns.map WData.int)] ∧ h.get? a = some { cls := .type "list", data := .seq vs.toArray } ∧ IntsAre vs ns ∧ ns.length ≤ n := by
  have hsh : WShape.hasAll [] args [.list .int] = true := (pre_splitW hpre).1
  have hc : l.pre.holds [] { args := args } = true := (pre_splitW hpre).2
  obtain ⟨d, r, rfl, h1, h2⟩ := hasAllW_cons hsh
  obtain rfl := hasAllW_nil h2
  obtain ⟨xs, rfl, h3⟩ := hasW_list h1
  obtain ⟨ns, rfl⟩ := items_int h3
  have hlen : ns.length ≤ n := by
    unfold OpenLaw.pre at hc
    have h4 : (WTm.not (.lt (.lit (.int (n : Int))) (.len (.arg 0)))).holds [] { args := [.list (ns.map .int)] } = true := by
      have h4 := (holds_andW hc).1
      rw [hn] at h4
      exact h4
    have h5 := condW_of h4 (w_not (w_lt w_lit (w_len_list (w_arg rfl))))
    rw [List.length_map] at h5
    refine Nat.le_of_not_lt fun q => ?_
    have q' : (n : Int) < ((ns.length : Nat) : Int) := by omega
    first
      | (rw [decide_eq_true q'] at h5; exact absurd h5 (by decide))
      | (simp at h5; omega)
  cases hwl with
  | cons w1 w2 =>
    cases w2
    cases w1 with
    | list ho hall => exact ⟨_, _, ns, rfl, rfl, ho, ints_of_wellAll ns _ hall, hlen⟩

theorem post_true (l : OpenLaw) (args : List WData) : l.row.toRowW.claim.post args (.bool true) args = true :=
  postW_of (r := l.row.toRowW) (X := (true == true))
    (show WShape.has [] (.bool true) .bool = true by first | rfl | decide | simp [WShape.has, WShape.arms, WShape.armsAll])
    (show (WTm.eq .res (.lit (.bool true))).value [] { args := args, res := some (.bool true), after := args } = some (.bool (true == true)) from w_eq_bool (w_res rfl) w_lit) rfl

/-! ### the attachment: holds_open's last premise (the goal 'hc' behind k_head) from a wpAny of the law's body -/
/-- the same from a codeAny of the CALL (for a layer whose function contracts speak of calls) -/
theorem attach_call {l : OpenLaw} {n : Nat} {q : Program} {loose : List Str} {XP : (Str → Option Value) → Heap → Prop} {YP : World → Heap → Prop} {d : DefRec}
    (hn : l.most = some n) (hdf : d.params.defaults = [])
    (call : ∀ (w : World) (s₀ s₁ : Shared) (mg mb : Str → Option Value) (fa : Addr) (o : Obj) (pm cd doc : Value) (a : Addr) (vs : List Value) (ns : List Int),
      Ground q loose [] XP w s₀ mg mb s₁.heap → YP w s₁.heap →
      s₁.heap.get? fa = some o → o.data = .func (docDef d.name d.params d.body d.scope pm cd doc) → s₁.heap.CodeRec cd d.name → mg d.name = some (.ref fa) →
      s₁.heap.get? a = some { cls := .type "list", data := .seq vs.toArray } → IntsAre vs ns → ns.length ≤ n → s₁.gens = #[] →
      codeAny (model l.prog w) callerA (.call (.ref fa) ⟨[.ref a], []⟩) (fun r s' => r = .ok (.ret (.bool true)) ∧ OldK s₁.heap s'.heap ∧ s'.os = s₁.os ∧ AllBare s'.gens) s₁) :
    WalkO q loose XP YP l.row.toRowW d [] (fun f vs => PySem.call f vs) := by
  intro w s₀ s₁ mg mb G Y fa o pm cd doc dV kV ho hd hcd hD hmg hg args vals as hpre hlay hrd hwl hlo
  obtain rfl : dV = .none := Dflts.none hD hdf
  obtain rfl : kV = .none := Dflts.noKw hD
  obtain ⟨a, vs, ns, rfl, rfl, hobj, hints, hlen⟩ := script_of hn hpre hwl
  refine enter_call (codeAny_mono (call w s₀ s₁ mg mb fa o pm cd doc a vs ns G Y ho (fd_plain hd) hcd hmg hobj hints hlen hg) fun r s' hq => ?_)
  obtain ⟨rfl, h2, h3, h4⟩ := hq
  exact ⟨.inl ⟨.bool true, .bool true, [], rfl, fun _ => rfl, .bool true, post_true l _, fun _ => ⟨List.Pairwise.nil, fun _ hm => (nomatch hm)⟩⟩, h2, h3, h4⟩

/-! ### rules over ANY heap (no ledger) from facts about the written part K: the library's own take a ledger (News) for what they write -/
section
variable {prog : Program} {w : World} {A : Around} {E : Value → Shared → Prop} {s : Shared} {K : Frag}

/-! the whole heap as the ledger: makes every rule that writes through a ledger a rule over any heap -/
end
end Att

namespace L2
open PySem PySem.Spec PyProof.Rows

theorem vals_ints : ∀ {vs : List Value} {ns : List Int}, IntsAre vs ns → Vals (ns.map V.int) vs
  | _, _, .nil => .nil
  | _, _, .cons n t h => .cons ⟨t, rfl⟩ (vals_ints h)

/-- nothing is tracked but the script, known to the object (or it is an object of the module) -/
def Only (H : Hp) : Prop := ∀ b, H b = none ∨ ∃ o xs, H b = some (.frz o (.lst xs))

/-- THE HEAD: the law's promise, at the heap behind the top. F, the promise of the law's def, may use that base is part of the heap (so K.In base, base.Ns mainGlobals mg stand in Mod) -/
theorem law_call {P : Program} {w : World} {K : PySem.W.Frag} {mg mb : Str → Option Value} {CX : CXT} {k : Nat} {fa a : Addr} {fd : FuncData} {x : Str} {sp : Sp} {s₁ : Shared} {vs : List Value} {ns : List Int}
    (KX : K.In s₁.heap) (hns : s₁.heap.Ns mainGlobals mg) (hb : s₁.heap.Ns builtinsNs mb) (hbb : ∀ x : Str, x ≠ "__name__" → mb x = bootBuiltins x) (hlim : s₁.heap.NoLimit) (hg : s₁.gens = #[])
    (ha : s₁.heap.get? a = some { cls := .type "list", data := .seq vs.toArray }) (hi : IntsAre vs ns) (hl : ns.length ≤ sizeLine) (hr : Room k callerA)
    (F : ∀ base : Heap, K.In base → base.Ns mainGlobals mg → FnOk P w K mg base CX k fa fd [x] sp) (hbind : ∀ (s : Shared) (u : Value), BindsTo s fd ⟨[u], []⟩ [(x, u)])
    (hsp : ∀ H : Hp, Only H → SqL K H a (ns.map V.int) → sp [.ref a] H (fun v _ => v = .bl true) fun _ _ _ => False)
    (hCX : ∀ H e s', CX [] H s₁ (fun _ _ _ => False) e s' → False) :
    codeAny (model P w) callerA (.call (.ref fa) ⟨[.ref a], []⟩) (fun r s' => r = .ok (.ret (.bool true)) ∧ OldK s₁.heap s'.heap ∧ s'.os = s₁.os ∧ AllBare s'.gens) s₁ := by
  have rv := vals_ints hi
  have lenV := hi.length
  -- from an abstract heap in which nothing but the script may be tracked
  have core : ∀ H : Hp, Only H → SqL K H a (ns.map V.int) → HOk P w H s₁.heap → (∀ b, H b ≠ none → b = a) → (H a ≠ none → K.lookup a = none) →
      codeAny (model P w) callerA (.call (.ref fa) ⟨[.ref a], []⟩) (fun r s' => r = .ok (.ret (.bool true)) ∧ OldK s₁.heap s'.heap ∧ s'.os = s₁.os ∧ AllBare s'.gens) s₁ := by
    intro H hO hS hok hA hK
    have base_of : ∀ {b : Addr} {o : Obj}, s₁.heap.get? b = some o → H b = none → (hidT s₁.heap H).get? b = some o := fun e n => hidT_get e n
    have noA : ∀ {b : Addr} {o : Obj} {es : Array DictEntry} {ep : Nat}, s₁.heap.get? b = some o → o.data = .dict es ep → H b = none := fun {b o es ep} e d => by
      cases q : H b with
      | none => rfl
      | some u =>
        have e' : b = a := hA b (by rw [q]; simp)
        subst e'
        rw [ha] at e; cases e
        have d' : Data.seq vs.toArray _ = Data.dict es ep := d
        cases d'
    have nsK : ∀ {b : Addr} {m : Str → Option Value}, s₁.heap.Ns b m → (hidT s₁.heap H).Ns b m := fun {b m} ⟨o, es, ep, e, d, r⟩ => ⟨o, es, ep, base_of e (noA e d), d, r⟩
    have hKb : K.In (hidT s₁.heap H) := fun b o e => base_of (KX b o e) (by
      cases q : H b with
      | none => rfl
      | some u =>
        have e' : b = a := hA b (by rw [q]; simp)
        subst e'
        rw [hK (by rw [q]; simp)] at e; cases e)
    have hM : Mod K mg (hidT s₁.heap H) := ⟨hKb, nsK hns, ⟨mb, nsK hb, hbb⟩, let ⟨mc, h1, h2⟩ := hlim; ⟨mc, nsK h1, h2⟩⟩
    have e0 : Env0 P w K mg (hidT s₁.heap H) callerA [] s₁ H := ⟨rfl, hM, fun b o e => of_hidT e, Nat.le_of_eq (hidT_size _ _), trivial, fun b hb => absurd (show b ∈ ([] : List Addr) from hb) (by simp), hok, .of_eq hg⟩
    refine codeAny_mono ((F _ hKb (nsK hns)).run callerA [] s₁ H ⟨[.ref a], []⟩ [.ref a] [.ref a] _ _ hr e0 (hbind s₁ (.ref a)) (.cons rfl .nil) (hsp H hO hS)) fun r s' h => ?_
    cases r with
    | error e => exact (hCX H e s' h).elim
    | ok fl =>
      cases fl with
      | next => exact False.elim h
      | brk => exact False.elim h
      | cont => exact False.elim h
      | ret u =>
        obtain ⟨v, H', os, bare, un, hok', r', q⟩ := h
        have q' : v = .bl true := q
        subst q'
        obtain rfl : u = Value.bool true := r'
        refine ⟨rfl, OldK.of_keep fun b o e => ?_, os, bare⟩
        cases q : H b with
        | none => exact un.keep b o e q (by intro z; exact absurd (show b ∈ ([] : List Addr) from z) (by simp)) (by simp)
        | some u =>
          rcases hO b with z | ⟨ob, xs, z⟩
          · rw [q] at z; cases z
          · have z2 := un.frzs b ob _ z
            obtain ⟨e1, _⟩ := hok b _ z
            obtain ⟨e2, _⟩ := hok' b _ z2
            rw [e] at e1; cases e1
            exact e2
  cases hk : K.lookup a with
  | some o =>
    -- the script is one of the module's own objects
    have e := KX a o hk
    rw [ha] at e
    cases e
    refine core (fun _ => none) (fun _ => .inl rfl) (.inr ⟨_, vs.toArray, _, hk, rfl, rfl, rfl, by rw [List.size_toArray, lenV]; exact hl, by simpa using rv⟩) (fun b u z => by have z' : (none : Option HO) = some u := z; cases z') (fun b z => absurd rfl z) fun z => absurd rfl z
  | none =>
    refine core (fun b => if b = a then some (.frz { cls := .type "list", data := .seq vs.toArray } (.lst (ns.map V.int))) else none) (fun b => ?_) (.inl (.inr ⟨{ cls := .type "list", data := .seq vs.toArray }, if_pos rfl⟩)) (fun b u z => ?_) (fun b z => ?_) fun _ => hk
    · by_cases hb : b = a
      · exact .inr ⟨_, _, if_pos hb⟩
      · exact .inl (if_neg hb)
    · by_cases hb : b = a
      · have z' := (if_pos hb).symm.trans z
        cases z'
        subst hb
        exact ⟨ha, by rw [List.length_map]; exact hl, vs, _, rv, ha⟩
      · have z' := (if_neg hb).symm.trans z
        cases z'
    · by_cases hb : b = a
      · exact hb
      · exact absurd (if_neg hb) z
end L2

namespace L2
open PySem PySem.Spec PyProof.Rows

/-- the goal that k_head leaves (case hc), from the law's promise. F gives the function object fd (K's own) once, then the promise over every base -/
theorem walk_of {l : PySem.W.OpenLaw} {n k : Nat} {q : Program} {loose : List Str} {XP : (Str → Option Value) → Heap → Prop} {YP : World → Heap → Prop} {d : DefRec} {K : Params → PySem.W.Frag} {CX : World → CXT} {sp : World → Sp} {x : Str}
    (hn : l.most = some n) (hn2 : n ≤ sizeLine) (hdf : d.params.defaults = []) (hr : Room k callerA)
    (hY : ∀ (w : World) (h : Heap), YP w h → (K w.params).In h)
    (F : ∀ (w : World) (mg : Str → Option Value) (fa : Addr) (h : Heap), (K w.params).In h → h.Ns mainGlobals mg → mg d.name = some (.ref fa) →
      ∃ fd : FuncData, (∀ (s : Shared) (u : Value), BindsTo s fd ⟨[u], []⟩ [(x, u)]) ∧
        ∀ base : Heap, (K w.params).In base → base.Ns mainGlobals mg → FnOk l.prog w (K w.params) mg base (CX w) k fa fd [x] (sp w))
    (hsp : ∀ (w : World) (H : Hp) (a : Addr) (ns : List Int), ns.length ≤ n → Only H → SqL (K w.params) H a (ns.map V.int) → sp w [.ref a] H (fun v _ => v = .bl true) fun _ _ _ => False)
    (hCX : ∀ (w : World) (H : Hp) (s : Shared) (e : Value) (s' : Shared), CX w [] H s (fun _ _ _ => False) e s' → False) :
    PySem.W.WalkO q loose XP YP l.row.toRowW d [] (fun f vs => PySem.call f vs) := by
  refine Att.attach_call hn hdf fun w s₀ s₁ mg mb fa o pm cd doc a vs ns G Y ho hd hcd hmg hobj hints hlen hg => ?_
  have KX := hY w _ Y
  obtain ⟨fd, hb, hF⟩ := F w mg fa _ KX G.T.g hmg
  exact law_call KX G.T.g G.T.b G.T.builtins G.T.nolimit hg hobj hints (Nat.le_trans hlen hn2) hr hF hb (fun H hO hS => hsp w H a ns hlen hO hS) fun H e s' => hCX w H s₁ e s'
end L2

/- THE LAST THEOREM (shape; LID, My.* are yours):
   My.Adr: a structure of the addresses that your layer names (classes, functions); My.Txt K t: a structure (Prop) of the equations over K;
   My.txt_mk : {K} {implicit addresses ..} (e1 : nsIn K mainGlobals "law" = some (some (.ref f))) (e2 : K.lookup f = some ⟨oc, od, .func (fnOf "law" "law" params body scope dV kV doc pm an cdv ct), sl⟩) (e3 : codeIn K cdv "law" = true) .. : ∃ t, My.Txt K t

set_option maxRecDepth 100000 in
set_option maxHeartbeats 0 in
theorem PySem.Challenge.cw_LID_holds : PySem.Challenge.rw_LID.Holds := by
  w_on; o_law; k_head; (case hw => w_witness2)
  k_fill
  refine L2.walk_of (l := PySem.Challenge.rw_LID) (n := 63) (k := 40) (x := "script") (CX := fun w => ..) (sp := fun _ => My.sp_law) rfl (by decide) rfl ⟨rfl, by decide, by decide⟩ (fun w h Y => PySem.W.kIn_of Y) ?F ?S ?C
  case F =>
    intro w mg fa h KX G hmg
    have T : ∃ t, My.Txt (L2.KOf KX) t := by
      dsimp only [L2.KOf]                          -- K must stand as «<heap const> w.params» for k_is
      refine' My.txt_mk ?e1 ?e2 ?e3 ..
      (case e1 => PySem.W.k_is)                    -- in the order: a name -> its address -> its object -> its parts
      (case e2 => PySem.W.k_is)
      ..
    obtain ⟨t, T⟩ := T
    have e0 := hmg.symm.trans (PySem.W.mg_of KX G T.law)
    cases e0                                       -- fa is the law's own address
    exact ⟨_, fun s u => .of_eq rfl, fun base kb nb => My.law_fn T kb nb⟩     -- if «.of_eq rfl» comes too early: refine' ⟨_, ?b, fun base kb nb => My.law_fn T kb nb⟩; exact fun s u => .of_eq rfl
  case S => exact fun w H a ns hl hO hS => ..
  case C => exact ..
(the tactic k_is has no namespace: write k_is) -/

/-! SHORT WORDS over the layer: a def of the text, its body, what a loop and a test want. -/
namespace L2
open PySem PySem.Spec PyProof.Rows

/-! ### the text by places -/
def defArgs (s : Stmt) : Arguments := match s with
  | .FunctionDef _ a _ _ _ _ _ _ _ _ => a
  | _ => { posonlyargs := [], args := [], vararg := none, kwonlyargs := [], kw_defaults := [], kwarg := none, defaults := [] }
def defBody (s : Stmt) : List Stmt := match s with
  | .FunctionDef _ _ b _ _ _ _ _ _ _ => b
  | _ => []
def defScope (s : Stmt) : Scope := match s with
  | .FunctionDef _ _ _ _ _ _ sc _ _ _ => sc
  | _ => { kind := .function, names := [], isGenerator := false, isCoroutine := false }

/-! ### no exception leaves a def -/
abbrev CX0 : CXT := fun _ _ _ _ _ _ => False
abbrev E0 : XK := fun _ _ _ => False
theorem pass0 {X : Cx} : Passes CX0 X E0 := fun _ _ _ _ _ _ _ h => h.elim

/-! ### a def (or method) of the text as it stands behind the top -/
structure Fun (K : PySem.W.Frag) (x qual : Str) (st : Stmt) (f : Addr) (fd : FuncData) : Prop where
  ex : ∃ (oc : Value) (od : Option Addr) (kV doc pm : Value) (an : Option Addr) (cdv ct : Value) (osl : Array (Option Value)),
    fd = PySem.W.fnOf x qual (defArgs st) (defBody st) (defScope st) .none kV doc pm an cdv ct ∧ K.lookup f = some ⟨oc, od, .func fd, osl⟩ ∧ PySem.W.codeIn K cdv qual = true
  kp : PySem.W.keepIn K (.ref f) = true
section
variable {P : Program} {w : World} {K : PySem.W.Frag} {mg : Str → Option Value} {base : Heap}
/-- THE RULE for a def: its body as a term of rules, and the reading of that term -/
theorem Fun.ok {x qual : Str} {st : Stmt} {f : Addr} {fd : FuncData} {N ps : List Str} {k : Nat} {sp : Sp} (F : Fun K x qual st f fd) (S : FnScope N ps (defScope st)) (len : ∀ vs H Q E, sp vs H Q E → vs.length = ps.length)
    (hbody : ∀ (cdv : Value) (A : Around) (outer : List Env) (s : Shared) (H : Hp) (vs : List V) (Q : VK) (E : XK), Room k (A.deeper (envOfC qual (defScope st) s.heap.objs.size f cdv)) → sp vs H Q E →
      ∃ t, PSs (cxOf CX0 P w K mg base N qual (defScope st) f cdv A outer s H E).nox (defBody st) t ∧ t { nx := fun _ H' => Q .non H', rt := Q } (start N vs) H) : FnOk P w K mg base CX0 (k + 1) f fd ps sp := by
  obtain ⟨oc, od, kV, doc, pm, an, cdv, ct, osl, rfl, lk, hcd⟩ := F.ex
  refine fn_of lk hcd S len fun A outer s H vs Q E hr hsp => ?_
  obtain ⟨t, h, q⟩ := hbody cdv A outer s H vs Q E hr hsp
  exact ⟨t, h.nox, q⟩
/-- how its arguments bind (no defaults): h is «fun _ _ _ _ _ _ us hl => match us, hl with | [_, _], _ => rfl», one _ a parameter -/
theorem Fun.binds {x qual : Str} {st : Stmt} {f : Addr} {fd : FuncData} {ps : List Str} (F : Fun K x qual st f fd)
    (h : ∀ (kV doc pm : Value) (an : Option Addr) (cdv ct : Value) (us : List Value), us.length = ps.length → bindArgs (PySem.W.fnOf x qual (defArgs st) (defBody st) (defScope st) .none kV doc pm an cdv ct) ⟨us, []⟩ = pure (ps.zip us)) : Binds K fd ps [] := by
  obtain ⟨oc, od, kV, doc, pm, an, cdv, ct, osl, rfl, lk, hcd⟩ := F.ex
  exact .all (h kV doc pm an cdv ct)
theorem fun_mk {x qual : Str} {st : Stmt} {f : Addr} {oc : Value} {od an : Option Addr} {osl : Array (Option Value)} {kV doc pm cdv ct : Value} (l : K.lookup f = some ⟨oc, od, .func (PySem.W.fnOf x qual (defArgs st) (defBody st) (defScope st) .none kV doc pm an cdv ct), osl⟩)
    (c : PySem.W.codeIn K cdv qual = true) (k : PySem.W.keepIn K (.ref f) = true) : Fun K x qual st f (PySem.W.fnOf x qual (defArgs st) (defBody st) (defScope st) .none kV doc pm an cdv ct) := ⟨⟨oc, od, kV, doc, pm, an, cdv, ct, osl, rfl, l, c⟩, k⟩
end
/-! ### expressions in short: the name that stands in the i-th slot -/
section
variable {X : Cx}
theorem pv (i : Nat) {x : Str} {pos : Pos} (hN : X.N[i]? = some x := by rfl) (hv : Vis X.env.scope x := by first | exact Or.inl rfl | exact Or.inr (Or.inl rfl) | exact Or.inr (Or.inr rfl)) (hd : (x == ("__debug__" : Str)) = false := by decide)
    (hcd : (x == ("__classdict__" : Str)) = false := by decide) : PE X (.Name x pos) (tVar i) := pe_var hN hv hd hcd
end

/-! ### tests -/
theorem iteF {A B : Prop} (h : B) : if false = true then A else B := by
  rw [if_neg Bool.false_ne_true]
  exact h
theorem iteT {A B : Prop} (h : A) : if true = true then A else B := by
  rw [if_pos rfl]
  exact h
theorem ite2 {c A B : Prop} [Decidable c] (h1 : c → A) (h2 : ¬ c → B) : if c then A else B := by
  by_cases h : c
  · rw [if_pos h]
    exact h1 h
  · rw [if_neg h]
    exact h2 h
theorem iteNS {c A B : Prop} [Decidable c] (hc : c) (h : B) : if (!decide c) = true then A else B := by
  rw [decide_eq_true hc]
  exact iteF h

/-! ### heaps -/
/-- all that was tracked is as it was -/
def Same (H H' : Hp) : Prop := ∀ b o, H b = some o → H' b = some o
theorem Same.refl (H : Hp) : Same H H := fun _ _ h => h
theorem Same.trans {H H1 H2 : Hp} (a : Same H H1) (b : Same H1 H2) : Same H H2 := fun c o h => b c o (a c o h)
theorem Same.free {H H' : Hp} (e : Same H H') {l : Addr} (h : H' l = Option.none) : H l = Option.none := by
  cases q : H l with
  | none => rfl
  | some o =>
    rw [e l o q] at h
    cases h
theorem Same.seq {K : PySem.W.Frag} {H H' : Hp} {a : Addr} {xs : List V} (e : Same H H') (h : SqL K H a xs) : SqL K H' a xs := by
  rcases h with (h | ⟨o, h⟩) | h
  · exact .inl (.inl (e _ _ h))
  · exact .inl (.inr ⟨o, e _ _ h⟩)
  · exact .inr h

end L2

set_option maxHeartbeats 4000000
namespace L2
open PySem PySem.Spec PyProof.Rows

/-! ### a comprehension's block -/
theorem lookup_in {α : Type} : ∀ {l : List (Str × α)} {x : Str} {k : α}, l.lookup x = some k → (x, k) ∈ l
  | [], _, _, h => by simp at h
  | (n, k') :: r, x, k, h => by
    rw [List.lookup_cons] at h
    cases hx : x == n with
    | true =>
      rw [hx] at h
      have e : k' = k := Option.some.inj h
      have e2 : x = n := eq_of_beq hx
      subst e e2
      exact List.mem_cons_self
    | false =>
      rw [hx] at h
      exact List.mem_cons_of_mem _ (lookup_in h)

def clFrom (cells : List (Str × Addr)) : List (Str × NameKind) → List (Str × Addr) → List (Str × Addr)
  | [], acc => acc
  | (n, k) :: r, acc => clFrom cells r (if (k == NameKind.free) = true then (match cells.lookup n with | some c => (n, c) :: acc | none => acc) else acc)

theorem clFrom_forIn {env : Env} {f : Str × NameKind → List (Str × Addr) → Sem (ForInStep (List (Str × Addr)))}
    (hf : ∀ x acc, f x acc = if (x.2 == NameKind.free) = true then (cellOf env x.1 >>= fun c => pure (ForInStep.yield ((x.1, c) :: acc))) else pure (ForInStep.yield acc)) :
    ∀ (names : List (Str × NameKind)) (acc : List (Str × Addr)), (∀ y ∈ names, y.2 = .free → ∃ c, env.cells.lookup y.1 = some c) → (forIn names acc f : Sem _) = pure (clFrom env.cells names acc)
  | [], acc, _ => rfl
  | (n, k) :: r, acc, h => by
    have ih := fun acc' => clFrom_forIn hf r acc' fun y hy => h y (List.mem_cons_of_mem _ hy)
    rw [List.forIn_cons, hf]
    by_cases hk : (k == NameKind.free) = true
    · have hk' : k = .free := by simpa using hk
      obtain ⟨c, hc⟩ := h (n, k) List.mem_cons_self hk'
      dsimp only at hc
      unfold clFrom
      dsimp only
      rw [if_pos hk, if_pos hk]
      have e : cellOf env n = pure c := by unfold cellOf; rw [hc]
      rw [e, hc]
      exact ih ((n, c) :: acc)
    · unfold clFrom
      dsimp only
      rw [if_neg hk, if_neg hk]
      exact ih acc

theorem closureFor_clFrom {env : Env} {scope : Scope} (h : ∀ y ∈ scope.names, y.2 = .free → ∃ c, env.cells.lookup y.1 = some c) : closureFor scope env = pure (clFrom env.cells scope.names []) := by
  simp only [closureFor]
  rw [clFrom_forIn (env := env) (fun x acc => ?_) scope.names [] h]
  · rfl
  · obtain ⟨n, k⟩ := x
    cases k <;> rfl

theorem clFrom_sub {cells : List (Str × Addr)} : ∀ {names : List (Str × NameKind)} {acc : List (Str × Addr)} {x : Str} {c : Addr}, (∀ y d, acc.lookup y = some d → cells.lookup y = some d) → (clFrom cells names acc).lookup x = some c → cells.lookup x = some c
  | [], _, x, c, ha, h => ha x c h
  | (n, k) :: r, acc, x, c, ha, h => by
    refine clFrom_sub (names := r) (fun y d e => ?_) h
    by_cases hk : (k == NameKind.free) = true
    · rw [if_pos hk] at e
      cases hc : cells.lookup n with
      | none => rw [hc] at e; exact ha y d e
      | some c' =>
        rw [hc] at e
        dsimp only at e
        rw [List.lookup_cons] at e
        cases hy : y == n with
        | true => rw [hy] at e; rw [eq_of_beq hy, hc]; exact e
        | false => rw [hy] at e; exact ha y d e
    · rw [if_neg hk] at e; exact ha y d e
theorem clFrom_keep {cells : List (Str × Addr)} : ∀ {names : List (Str × NameKind)} {acc : List (Str × Addr)} {x : Str} {c : Addr}, cells.lookup x = some c → acc.lookup x = some c → (clFrom cells names acc).lookup x = some c
  | [], _, _, _, _, h => h
  | (n, k) :: r, acc, x, c, hc, h => by
    refine clFrom_keep (names := r) hc ?_
    by_cases hk : (k == NameKind.free) = true
    · rw [if_pos hk]
      cases hn : cells.lookup n with
      | none => exact h
      | some c' =>
        dsimp only
        rw [List.lookup_cons]
        cases hy : x == n with
        | true => rw [eq_of_beq hy, hn] at hc; exact hc
        | false => exact h
    · rw [if_neg hk]; exact h
theorem clFrom_free {cells : List (Str × Addr)} : ∀ {names : List (Str × NameKind)} {acc : List (Str × Addr)} {x : Str} {c : Addr}, (x, NameKind.free) ∈ names → cells.lookup x = some c → (clFrom cells names acc).lookup x = some c
  | [], _, _, _, h, _ => nomatch h
  | (n, k) :: r, acc, x, c, h, hc => by
    rcases List.mem_cons.mp h with e | e
    · cases e
      unfold clFrom
      rw [if_pos (show (NameKind.free == NameKind.free) = true from rfl), hc]
      refine clFrom_keep hc ?_
      rw [List.lookup_cons, beq_self_eq_true]
    · exact clFrom_free (names := r) e hc

theorem relabel_of {env : Env} : ∀ {names : List (Str × NameKind)} {x : Str} {k : NameKind},
    (names.map fun (n, k) => if (k == NameKind.free && env.scope.kind == .function && env.kindOf n == some .cell) then (n, NameKind.cell) else (n, k)).lookup x = some k →
    ∃ k0, names.lookup x = some k0 ∧ (k = k0 ∨ (k0 = .free ∧ k = .cell))
  | [], _, _, h => by simp at h
  | (n, k') :: r, x, k, h => by
    have ih := @relabel_of env r x k
    rw [List.map_cons] at h
    by_cases hc : (k' == NameKind.free && env.scope.kind == .function && env.kindOf n == some .cell) = true
    · dsimp only at h
      rw [if_pos hc, List.lookup_cons] at h
      rw [List.lookup_cons]
      cases hx : x == n with
      | true =>
        rw [hx] at h
        have hk : k' = .free := by
          rw [Bool.and_eq_true, Bool.and_eq_true] at hc
          simpa using hc.1.1
        exact ⟨k', rfl, .inr ⟨hk, (Option.some.inj h).symm⟩⟩
      | false => rw [hx] at h; exact ih h
    · dsimp only at h
      rw [if_neg hc, List.lookup_cons] at h
      rw [List.lookup_cons]
      cases hx : x == n with
      | true => rw [hx] at h; exact ⟨k', rfl, .inl (Option.some.inj h).symm⟩
      | false => rw [hx] at h; exact ih h
theorem relabel_free {env : Env} : ∀ {names : List (Str × NameKind)} {x : Str}, names.lookup x = some .free →
    (names.map fun (n, k) => if (k == NameKind.free && env.scope.kind == .function && env.kindOf n == some .cell) then (n, NameKind.cell) else (n, k)).lookup x = some .cell ∨
    (names.map fun (n, k) => if (k == NameKind.free && env.scope.kind == .function && env.kindOf n == some .cell) then (n, NameKind.cell) else (n, k)).lookup x = some .free
  | [], _, h => by simp at h
  | (n, k') :: r, x, h => by
    have ih := @relabel_free env r x
    rw [List.map_cons]
    rw [List.lookup_cons] at h
    by_cases hc : (k' == NameKind.free && env.scope.kind == .function && env.kindOf n == some .cell) = true
    · dsimp only
      rw [if_pos hc, List.lookup_cons]
      cases hx : x == n with
      | true => exact .inl rfl
      | false => rw [hx] at h; exact ih h
    · dsimp only
      rw [if_neg hc, List.lookup_cons]
      cases hx : x == n with
      | true => rw [hx] at h; exact .inr h
      | false => rw [hx] at h; exact ih h

/-- what a comprehension's scope must be: own: its own names, fr: the names of the frame that it reads, js: their slots there -/
structure CompSc (sc : Scope) (XN : List Str) (scope : Scope) (own fr : List Str) (js : List Nat) : Prop where
  kind : scope.kind = .function
  cell : ∀ y ∈ scope.names, y.2 ≠ .cell
  loc : ∀ x ∈ scope.names, x.2 = .local → scope.names.lookup x.1 = some .local
  free : ∀ y ∈ scope.names, y.2 = .free → sc.names.lookup y.1 = some .cell ∨ sc.names.lookup y.1 = some .free
  len : fr.length = js.length
  at_ : ∀ p ∈ fr.zip js, XN[p.2]? = some p.1 ∧ scope.names.lookup p.1 = some .free

def compCx (X : Cx) (scope : Scope) (NN : List Str) (fp : List Addr) (pins : List (Addr × Obj)) (s : Shared) (H : Hp) (C : Addr) : Cx where
  prog := X.prog
  w := X.w
  K := X.K
  mg := X.mg
  base := X.base
  A := X.A
  N := NN
  s₀ := s
  H₀ := H
  env := compEnvC scope (clFrom X.env.cells scope.names []) C X.env
  outer := X.stack
  stack := X.stack
  ex := fp
  fn := fun x => ((clFrom X.env.cells scope.names []).lookup x).isNone
  calm := X.calm
  pn := X.pn ++ pins
  xe := fun _ _ => False

/-- the names' values at a turn's begin -/
def cst (own : Nat) (js : List Nat) (σ : St) : St := List.replicate own none ++ js.map fun j => (σ[j]?).join

section
variable {X : Cx} {pins : List (Addr × Obj)} {σ : St} {H : Hp} {s : Shared} {scope : Scope} {own fr : List Str} {js : List Nat} {fp : List Addr} {C : Addr}

theorem clf_nil {cells : List (Str × Addr)} {names : List (Str × NameKind)} {x : Str} {c : Addr} (h : (clFrom cells names []).lookup x = some c) : cells.lookup x = some c :=
  clFrom_sub (fun y d e => by simp at e) h

theorem compOk (I : Inv X pins σ H s) (cs : CompSc X.env.scope X.N scope own fr js) (f2 : ∀ b ∈ fp, FpOk X pins H b) (ho : ∀ b ∈ fp, b < s.heap.objs.size) (hC : s.heap.objs.size ≤ C) :
    (compCx X scope (own ++ fr) fp pins s H C).Ok where
  mod := I.ok.mod
  kind := cs.kind
  glob := I.ok.glob
  blt := I.ok.blt
  above := hC
  inj := fun x y c h1 h2 => I.ok.inj x y c (clf_nil h1) (clf_nil h2)
  has := fun x h => by
    have hx : (x, NameKind.free) ∈ scope.names := by
      rcases h with h | h
      · obtain ⟨k0, e, z⟩ := relabel_of h
        rcases z with z | ⟨z, _⟩
        · subst z; exact absurd rfl (cs.cell _ (lookup_in e))
        · subst z; exact lookup_in e
      · obtain ⟨k0, e, z⟩ := relabel_of h
        rcases z with z | ⟨z, _⟩
        · subst z; exact lookup_in e
        · subst z; exact lookup_in e
    obtain ⟨c, hc⟩ := I.ok.has x (cs.free _ hx rfl)
    exact ⟨c, clFrom_free hx hc⟩
  cab := fun x c h e => by
    have h' : ((clFrom X.env.cells scope.names []).lookup x).isNone = true := h
    have e' : (clFrom X.env.cells scope.names []).lookup x = some c := e
    rw [e'] at h'
    cases h'
  hd := I.ok.hd
  frames := I.ok.frames
  stk := .inl rfl
  exf := fun b hb => ⟨Nat.ne_of_lt (Nat.lt_of_lt_of_le (ho b hb) hC), fun x c e => (f2 b hb).2.2.2.2.1 x c (clf_nil e)⟩
  bs := I.bs
  bsz := Nat.le_trans I.ok.bsz I.sz
  noex := fun b o e hb => by
    rcases (f2 b hb).2.2.2.1 with z | z
    · exact I.ok.noex b o e z
    · exact absurd (Nat.lt_of_lt_of_le (Heap.lt_size e) (Nat.le_trans I.ok.bsz z)) (Nat.lt_irrefl _)
  exfs := fun b hb z => by
    rcases List.mem_cons.mp (I.stkSub b z) with e | e
    · exact (f2 b hb).2.1 e
    · exact (f2 b hb).2.2.1 e
  funs := I.stack
  frf := I.stkFree

/-- whatever the block has stored in its own names: the frame's names still stand -/
theorem compBack (I : Inv X pins σ H s) (cs : CompSc X.env.scope X.N scope own fr js) (f2 : ∀ b ∈ fp, FpOk X pins H b) {pins' : List (Addr × Obj)} {σ' : St} {H' : Hp} {s' : Shared}
    (I' : Inv (compCx X scope (own ++ fr) fp pins s H C) pins' σ' H' s') : Inv (compCx X scope (own ++ fr) fp pins s H C) pins' (cst own.length js σ) H' s' := by
  refine ⟨I'.ok, I'.os, I'.bare, I'.base, ?_, I'.cell, I'.free, I'.freeC, I'.pin, I'.hok, ?_⟩
  · obtain ⟨m, hm, _⟩ := I'.loc
    obtain ⟨m0, hm0, hl0⟩ := I.loc
    refine ⟨m, hm, fun i x v e1 e2 _ => ?_⟩
    have e1' : (own ++ fr)[i]? = some x := e1
    unfold cst at e2
    by_cases hi : i < own.length
    · rw [List.getElem?_append_left (by simpa using hi), List.getElem?_replicate, if_pos hi] at e2
      cases e2
    · have hi' : own.length ≤ i := Nat.le_of_not_lt hi
      rw [List.getElem?_append_right (by simpa using hi'), List.length_replicate, List.getElem?_map] at e2
      rw [List.getElem?_append_right hi'] at e1'
      cases hj : js[i - own.length]? with
      | none => rw [hj] at e2; cases e2
      | some j =>
        rw [hj] at e2
        have e3 : (σ[j]?).join = some v := Option.some.inj e2
        have e4 : σ[j]? = some (some v) := by
          cases q : σ[j]? with
          | none => rw [q] at e3; cases e3
          | some z => rw [q] at e3; cases z with
            | none => cases e3
            | some z' => exact congrArg (fun y => some (some y)) (Option.some.inj e3)
        have hz : (x, j) ∈ fr.zip js := by
          refine List.mem_of_getElem? (i := i - own.length) ?_
          rw [List.getElem?_zip_eq_some]
          exact ⟨e1', hj⟩
        obtain ⟨a1, a2⟩ := cs.at_ _ hz
        have kX := cs.free (x, .free) (lookup_in a2) rfl
        obtain ⟨u, ru, look⟩ := hl0 j x v a1 e4 (kX.elim (fun z => .inr (.inl z)) fun z => .inr (.inr z))
        rcases look with ⟨kl, _⟩ | ⟨_, c, hc, o, hoc, hod⟩
        · have kl' : X.env.scope.names.lookup x = some .local := kl
          dsimp only at kX
          rw [kl'] at kX
          rcases kX with z | z <;> cases z
        · obtain ⟨sl, es⟩ := I'.base.any hoc (I.freeC x c hc) fun z => (f2 c z).2.2.2.2.1 x c hc rfl
          exact ⟨u, ru, .inr ⟨relabel_free a2, c, clFrom_free (lookup_in a2) hc, ⟨_, es, hod⟩⟩⟩
  · show (cst own.length js σ).length = (own ++ fr).length
    unfold cst
    rw [List.length_append, List.length_append, List.length_replicate, List.length_map, cs.len]

theorem compIn (I : Inv X pins σ H s) (cs : CompSc X.env.scope X.N scope own fr js) (f2 : ∀ b ∈ fp, FpOk X pins H b) (ho : ∀ b ∈ fp, b < s.heap.objs.size) (hC : s.heap.objs.size ≤ C) {D : Addr} {oD : Obj} {h1 : Heap} {tk : Nat} {m : Str → Option Value}
    (k : ∀ b o, s.heap.get? b = some o → h1.get? b = some o) (hn : h1.Ns C m) (hDs : s.heap.objs.size ≤ D) (hDC : D ≠ C) (hD : h1.get? D = some oD) (dD : ∀ v, oD.data ≠ .cell v) :
    Inv (compCx X scope (own ++ fr) fp pins s H C) [(D, oD)] (cst own.length js σ) H { s with heap := h1, toks := tk } := by
  refine compBack (σ' := List.replicate (own ++ fr).length none) I cs f2 ?_
  have nstk : ∀ b, s.heap.objs.size ≤ b → b ∉ frs X.stack := fun b hb z => by
    rcases List.mem_cons.mp (I.stkSub b z) with e | e
    · rw [e] at hb; exact absurd (Nat.lt_of_lt_of_le I.lt hb) (Nat.lt_irrefl _)
    · exact I.nofs hb e
  refine ⟨compOk I cs f2 ho hC, rfl, I.bare, Un.kept k, ⟨m, hn, fun i x v e1 e2 _ => ?_⟩, fun x c e => ?_, I.hok.fresh hC, fun x c e => I.freeC x c (clf_nil e), fun p hp => ?_, I.hok.kept k, by simp [compCx]⟩
  · rw [List.getElem?_replicate] at e2
    split at e2 <;> cases e2
  · obtain ⟨v, z⟩ := I.cell x c (clf_nil e)
    exact ⟨v, z.keeps k⟩
  · rcases List.mem_append.mp hp with z | z
    · obtain ⟨a1, a2, a3, a4, a5⟩ := I.pin p z
      refine ⟨k _ _ a1, a2, ?_, ?_, a5⟩
      · exact Nat.ne_of_lt (Nat.lt_of_lt_of_le (Heap.lt_size a1) hC)
      · intro q
        rcases List.mem_cons.mp (I.stkSub _ q) with e | e
        · exact a3 e
        · exact a4 e
    · have e : p = (D, oD) := by simpa using z
      subst e
      exact ⟨hD, I.hok.fresh hDs, hDC, nstk D hDs, dD⟩
end
end L2

namespace L2
open PySem PySem.Spec PyProof.Rows

abbrev noE : Value → Shared → Prop := fun _ _ => False
theorem unE {α : Type} {M : Model} {A : Around} {t : Sem α} {Q : α → Shared → Prop} {E : Value → Shared → Prop} {s : Shared} (h : wpAny M A t Q noE s) : wpAny M A t Q E s :=
  wpAny_mono h (fun _ _ q => q) fun _ _ f => f.elim

/-- the tests of a comprehension -/
abbrev testsOf (ifs : List Expr) (env : Env) : Sem Bool := forIn ifs true fun c r => if r = true then do let ok ← isTrue c env (eval c env); pure (ForInStep.yield ok) else pure (ForInStep.yield r)

theorem comp_loop_go {prog : Program} {w : World} {A : Around} {R : Result → Shared → Prop} {s : Shared} {elt target iter : Expr} {ifs : List Expr} {scope : Scope} {pos : Pos} {it acc : Value} {env : Env} (Iv : Nat → Shared → Prop)
    (turn : ∀ n s, Iv n s → wpAny (model prog w) A (pyNext it) (fun r s₁ => match r with
      | none => R (.ok .next) s₁
      | some v => wpAny (model prog w) A (letOwnedTupleGo target it v) (fun _ s₂ => wpAny (model prog w) A (assign target env v) (fun _ s₃ =>
          wpAny (model prog w) A (testsOf ifs env) (fun ok s₄ =>
            if ok = true then wpAny (model prog w) A (eval elt env) (fun x s₅ =>
              wpAny (model prog w) A (call (.builtin "list.append") [acc, x]) (fun _ s₆ => ∃ m, m < n ∧ Iv m s₆) noE s₅) noE s₄
            else ∃ m, m < n ∧ Iv m s₄) noE s₃) noE s₂) noE s₁) noE s)
    (n : Nat) (h : Iv n s) : codeAny (model prog w) A (.compLoop (.ListComp elt [⟨target, iter, ifs, 0⟩] scope pos) 0 it acc env) R s := by
  refine codeAny_loop rfl Iv (fun n s hI => ?_) n h
  show wpAny _ A ((compTurn (.ListComp elt [⟨target, iter, ifs, 0⟩] scope pos) 0 it acc env).onRaise (fun x => do noteFrame x env; theTreesLotGoes x)) _ _ s
  refine wpAny_noted ?_
  rw [compTurn_list]
  refine wpAny_bind (wpAny_standAt (wpAny_bind (thn (unE (turn n s hI)) fun r s₁ h₁ => ?_)))
  cases r with
  | none => exact wpAny_pure h₁
  | some v =>
    refine wpAny_bind (thn (unE h₁) fun _ s₂ h₂ => ?_)
    refine wpAny_bind (thn (unE h₂) fun _ s₃ h₃ => wpAny_bind (thn (unE h₃) fun ok s₄ h₄ => ?_))
    cases ok with
    | false => exact wpAny_pure ⟨rfl, h₄⟩
    | true =>
      exact wpAny_bind (wpAny_bind (thn (unE h₄) fun x s₅ h₅ => wpAny_bind (thn (unE h₅) fun _ s₆ h₆ => wpAny_pure (wpAny_pure ⟨rfl, h₆⟩))))

/-- the tests' reading -/
def PTs (X : Cx) (ifs : List Expr) (t : TT) : Prop :=
  ∀ (pins : List (Addr × Obj)) (s : Shared) (σ : St) (H : Hp) (Q : Bool → Hp → Prop), Inv X pins σ H s → t σ H Q → wpAny (model X.prog X.w) X.A (testsOf ifs X.env) (TP X pins σ Q) X.xe s
def tYes : TT := fun _ H Q => Q true H
theorem pts_nil {X : Cx} : PTs X [] tYes := fun _ _ _ H _ I h => wpAny_pure ⟨H, I, h⟩
theorem pts_one {X : Cx} {c : Expr} {t : TT} (h : PT X c t) : PTs X [c] t := fun pins s σ H Q I q => wpAny_tests_one (h pins s σ H Q I q)

def compRd (own : Nat) (js : List Nat) (g : TG) (tt : TT) (te : TE) (σ : St) (J : It) (H1 : Hp) (Qf : List V → Hp → Prop) : Prop :=
  ∃ W : Nat → Nat → List V → Hp → Prop, (∃ m, W 0 m [] H1) ∧ ∀ i m ys H, W i m ys H → (J.stop i H ∧ Qf ys H) ∨ (J.go i H ∧ ys.length < sizeLine ∧ ∃ N : List V → Hp → Prop, (∀ ys' H', N ys' H' → ∃ m', m' < m ∧ W (i + 1) m' ys' H') ∧
    ∀ x H', J.yld i H x H' → g x (cst own js σ) H' fun σ2 H2 => tt σ2 H2 fun b H3 => if b = true then te σ2 H3 fun y H4 => N (ys ++ [y]) H4 else N ys H3)

section
variable {X : Cx} {pins : List (Addr × Obj)} {σ : St} {H : Hp} {s : Shared} {scope : Scope} {own fr : List Str} {js : List Nat}

theorem comp_run {elt tg iter : Expr} {ifs : List Expr} {pos : Pos} {g : TG} {tt : TT} {te : TE} {J : It} {fp : List Addr} {it : Addr} {tn : Nat → Heap → Prop} {Qf : List V → Hp → Prop} {RR : Value → Addr → Result → Shared → Prop}
    (hc : X.calm = true) (I : Inv X pins σ H s) (cs : CompSc X.env.scope X.N scope own fr js) (T : Turn X.prog X.w X.K tg J fp it tn) (st : tn 0 s.heap) (f2 : ∀ b ∈ fp, FpOk X pins H b)
    (hg : ∀ C, PG (compCx X scope (own ++ fr) fp pins s H C) tg g) (ht : ∀ C, PTs (compCx X scope (own ++ fr) fp pins s H C) ifs tt) (he : ∀ C, PE (compCx X scope (own ++ fr) fp pins s H C) elt te)
    (rd : compRd own.length js g tt te σ J H Qf)
    (hRR : ∀ D C s' H' ys (its : List Value) (n : Nat), s.heap.objs.size ≤ D → s.heap.objs.size ≤ C → D ≠ C → Inv (compCx X scope (own ++ fr) fp pins s H C) [(D, { cls := .type "list", data := .seq its.toArray n })] (cst own.length js σ) H' s' →
      Vals ys its → ys.length ≤ sizeLine → Qf ys H' → RR (.ref D) C (.ok .next) s') :
    wpAny (model X.prog X.w) X.A (newList []) (fun acc s₃ => wpAny (model X.prog X.w) X.A (newFunctionEnv scope X.env.globals (clFrom X.env.cells scope.names []) [] X.env.qual none .none (some X.env)) (fun cenv s₄ =>
      codeAny (model X.prog X.w) X.A (.compStart (.ListComp elt [⟨tg, iter, ifs, 0⟩] scope pos) 0 (.ref it) acc { cenv with scope := relabel scope X.env }) (RR acc cenv.locals) s₄) X.xe s₃) X.xe s := by
  obtain ⟨W, ⟨m0, w0⟩, turn⟩ := rd
  have ho : ∀ b ∈ fp, b < s.heap.objs.size := fun b hb => by
    obtain ⟨o, e, _⟩ := T.obj _ _ st b hb
    exact Heap.lt_size e
  refine wpAny_newObj_type (wpAny_newFunctionEnv (fun y hy => cs.cell y hy) (by intro y hy; simp at hy) (fun h₁ hns₁ hsb₁ => ?_) cs.kind)
  dsimp only at hns₁ hsb₁ ⊢
  generalize hH2 : s.heap.push { cls := .type "list", dict := none, data := .seq ([] : List Value).toArray } = H2 at hns₁ hsb₁ ⊢
  have hC : H2.objs.size = s.heap.objs.size + 1 := by rw [← hH2, Heap.size_push]
  have hDC : s.heap.objs.size ≠ H2.objs.size := by rw [hC]; exact Nat.ne_of_lt (Nat.lt_succ_self _)
  have hCle : s.heap.objs.size ≤ H2.objs.size := by rw [hC]; exact Nat.le_succ _
  have old : ∀ b o, s.heap.get? b = some o → h₁.get? b = some o := fun b o e => hsb₁.extBut b o (by rw [hC]; exact Nat.ne_of_lt (Nat.lt_succ_of_lt (Heap.lt_size e))) (Heap.get?_push_of_some _ (hH2 ▸ Heap.get?_push_of_some _ e))
  have hacc : h₁.get? s.heap.objs.size = some { cls := .type "list", data := .seq ([] : List Value).toArray } := hsb₁.extBut _ _ hDC (Heap.get?_push_of_some _ (hH2 ▸ Heap.get?_push_size _ rfl))
  have stat : ∀ {H' : Hp} {oD : Obj}, (∀ b ∈ fp, H' b = none) → ∀ b ∈ fp, FpOk (compCx X scope (own ++ fr) fp pins s H H2.objs.size) [(s.heap.objs.size, oD)] H' b := fun {H' oD} hn b hb => by
    obtain ⟨f0, f1, f3, f4, f5, f6⟩ := f2 b hb
    refine ⟨hn b hb, Nat.ne_of_lt (Nat.lt_of_lt_of_le (ho b hb) hCle), fun z => ?_, .inl hb, fun x c e => f5 x c (clf_nil e), fun p hp => ?_⟩
    · rcases List.mem_cons.mp (I.stkSub b z) with e | e
      · exact f1 e
      · exact f3 e
    · rcases List.mem_append.mp hp with z | z
      · exact f6 p z
      · have e : p = (s.heap.objs.size, oD) := by simpa using z
        subst e
        exact Nat.ne_of_gt (ho b hb)
  have loop : ∀ s₃ : Shared, s₃ = { s with heap := h₁, toks := s.toks + ([] : List (Str × Value)).length } →
      codeAny (model X.prog X.w) X.A (.compLoop (.ListComp elt [⟨tg, iter, ifs, 0⟩] scope pos) 0 (.ref it) (.ref s.heap.objs.size) (compEnvC scope (clFrom X.env.cells scope.names []) H2.objs.size X.env))
        (RR (.ref s.heap.objs.size) H2.objs.size) s₃ := by
    rintro s₃ rfl
    refine comp_loop_go (fun n s' => ∃ i ys H' its nn, Inv (compCx X scope (own ++ fr) fp pins s H H2.objs.size) [(s.heap.objs.size, { cls := .type "list", data := .seq (its : List Value).toArray nn })] (cst own.length js σ) H' s' ∧
      Vals ys its ∧ ys.length ≤ sizeLine ∧ tn i s'.heap ∧ (∀ b ∈ fp, H' b = none) ∧ W i n ys H') ?_ m0
      ⟨0, [], H, [], 0, compIn I cs f2 ho hCle old hns₁ (Nat.le_refl _) hDC hacc (fun v z => by cases z), .nil, Nat.zero_le _, T.keep _ _ _ st fun b _ o e => old b o e, fun b hb => (f2 b hb).1, w0⟩
    rintro n s5 ⟨i, ys, H5, its, nn, I5, rv, hz, st5, fr5, w5⟩
    rcases turn i n ys H5 w5 with ⟨stop, q⟩ | ⟨go, hlt, N, hN, step⟩
    · refine thn (T.done (compCx X scope (own ++ fr) fp pins s H H2.objs.size) rfl rfl rfl hc i _ s5 _ H5 noE I5 (stat fr5) st5 stop) fun r s6 ⟨hr, I6⟩ => ?_
      subst hr
      exact hRR _ _ s6 H5 ys its nn (Nat.le_refl _) hCle hDC I6 rv hz q
    · refine thn (T.item (compCx X scope (own ++ fr) fp pins s H H2.objs.size) rfl rfl rfl hc i _ s5 _ H5 noE I5 (stat fr5) st5 go) fun r s6 ⟨u, hr, h6⟩ => ?_
      subst hr
      refine thn h6 fun _ s7 ⟨x, H7, I7, r7, y7, st7, fr7⟩ => ?_
      have I7' := I7.pinned (stat fr7) (T.obj _ _ st7)
      refine thn (hg _ _ s7 _ H7 x u _ I7' r7 (step x H7 y7)) fun _ s8 ⟨σ8, H8, I8, q8⟩ => ?_
      refine thn (ht _ _ s8 σ8 H8 _ I8 q8) fun ok s9 ⟨H9, I9, q9⟩ => ?_
      have kfp : ∀ {σ' : St} {H' : Hp} {s' : Shared}, Inv (compCx X scope (own ++ fr) fp pins s H H2.objs.size) ([(s.heap.objs.size, { cls := .type "list", data := .seq its.toArray nn })] ++ pinsAt fp s7.heap) σ' H' s' →
          (∀ b ∈ fp, ∀ o, s7.heap.get? b = some o → s'.heap.get? b = some o) ∧ ∀ b ∈ fp, H' b = none := fun {σ' H' s'} I' => by
        refine ⟨fun b hb o e => (I'.pin (b, o) (List.mem_append_right _ (List.mem_append_right _ (mem_pinsAt hb e)))).1, fun b hb => ?_⟩
        obtain ⟨o, e, d⟩ := T.obj _ _ st7 b hb
        exact (I'.pin (b, o) (List.mem_append_right _ (List.mem_append_right _ (mem_pinsAt hb e)))).2.1
      cases ok with
      | false =>
        obtain ⟨m', hm, w9⟩ := hN _ _ (show N ys H9 from q9)
        exact ⟨m', hm, i + 1, ys, H9, its, nn, compBack I cs f2 I9.unpinned, rv, hz, T.keep _ _ _ st7 (kfp I9).1, (kfp I9).2, w9⟩
      | true =>
        refine thn (he _ _ s9 σ8 H9 _ I9 q9) fun yv s10 ⟨y, H10, I10, r10, q10⟩ => ?_
        have pD := I10.pin (s.heap.objs.size, { cls := .type "list", data := .seq its.toArray nn }) (List.mem_append_right _ (List.mem_append_left _ (List.mem_singleton.mpr rfl)))
        have e1 : s10.heap.get? s.heap.objs.size = some { cls := .type "list", data := .seq its.toArray nn } := pD.1
        have hlen := rv.length
        refine call_meets F.slot_list_append ⟨_, e1, rfl⟩ F.entry_list_append (F.args_list_append_2 _ _) (PySem.list_append s.heap.objs.size its.toArray nn yv (by rw [List.size_toArray]; omega)) ⟨e1, ?_⟩
        obtain ⟨m', hm, w10⟩ := hN _ _ q10
        have e2 := PySem.IsL.update (h := s10.heap) (l := s.heap.objs.size) e1 (fun z => z.push yv)
        have e3 : its.toArray.push yv = (its ++ [yv]).toArray := by simp
        rw [e3] at e2
        obtain ⟨nn', e2'⟩ : ∃ n', (s10.heap.update s.heap.objs.size (Obj.mapSeq fun z => z.push yv)).get? s.heap.objs.size = some { cls := .type "list", data := .seq (its ++ [yv]).toArray n' } := ⟨_, e2⟩
        have I11 := (compBack I cs f2 I10).pins_of (pins' := []) (fun p hp => nomatch hp)
        have I12 := I11.turned (t' := s10.toks) (it := s.heap.objs.size) (h' := s10.heap.update s.heap.objs.size (Obj.mapSeq fun z => z.push yv)) (fun b o hb e => (Heap.get?_update_other s10.heap _ (Ne.symm hb)).trans e)
          pD.2.1 pD.2.2.1 (.inr (Nat.le_refl _)) (fun x c e => by
            obtain ⟨v, z⟩ := I.cell x c (clf_nil e)
            exact Nat.ne_of_lt z.lt) (fun p hp => by
            have hp' : p ∈ X.pn ++ pins := by simpa [compCx] using hp
            exact Nat.ne_of_lt (Heap.lt_size (I.pin p hp').1))
        refine ⟨m', hm, i + 1, ys ++ [y], H10, its ++ [yv], nn', I12.pins_of fun p hp => ?_, rv.append (.cons r10 .nil), ?_, T.keep _ _ _ st7 fun b hb o e => ?_, (kfp I10).2, w10⟩
        · have e := List.mem_singleton.mp hp
          subst e
          exact ⟨e2', pD.2.1, pD.2.2.1, pD.2.2.2.1, fun v z => by cases z⟩
        · rw [List.length_append, List.length_singleton]; omega
        · exact (Heap.get?_update_other s10.heap _ (Nat.ne_of_gt (ho b hb))).trans ((kfp I10).1 b hb o e)
  exact codeAny_compStart_list (loop _ rfl) (T.self _ 0 _ _ _ (T.keep _ _ _ st fun b _ o e => old b o e) (loop _ rfl))
end

/-- an object that stands in the heap, younger than the entry, is tracked from here on -/
theorem Inv.track {X : Cx} {pins : List (Addr × Obj)} {σ : St} {H : Hp} {s : Shared} {a : Addr} {o : HO} (I : Inv X pins σ H s) (hn : H a = none) (ha : X.s₀.heap.objs.size ≤ a) (hL : a ≠ X.env.locals) (hcl : ∀ x c, X.env.cells.lookup x = some c → c ≠ a)
    (hp : ∀ p ∈ X.pn ++ pins, p.1 ≠ a) (new : ObjOk X.prog X.w (upd H a o) s.heap a o) : Inv X pins σ (upd H a o) s := by
  have nn : ∀ b u, H b = some u → b ≠ a := fun b u e z => by rw [z, hn] at e; cases e
  refine ⟨I.ok, I.os, I.bare, ⟨I.base.keep, I.base.slot, fun b ob e n hx => ?_, I.base.there, fun b xs e => ?_, fun b ob u e => ?_, fun b ps e => ?_⟩, I.loc, I.cell, ?_, fun x c e => ?_, fun p h => ?_, fun b u e => ?_, I.len⟩
  · rw [upd_ne (Nat.ne_of_lt (Nat.lt_of_lt_of_le (Heap.lt_size e) ha))]
    exact I.base.free b ob e n hx
  · have := I.base.tups b xs e
    rw [upd_ne (nn b _ this)]; exact this
  · have := I.base.frzs b ob u e
    rw [upd_ne (nn b _ this)]; exact this
  · obtain ⟨more, q⟩ := I.base.tbls b ps e
    exact ⟨more, by rw [upd_ne (nn b _ q)]; exact q⟩
  · rw [upd_ne (Ne.symm hL)]; exact I.free
  · rw [upd_ne (hcl x c e)]; exact I.freeC x c e
  · obtain ⟨a1, a2, a3, a4, a5⟩ := I.pin p h
    exact ⟨a1, by rw [upd_ne (hp p h)]; exact a2, a3, a4, a5⟩
  · by_cases hb : b = a
    · subst hb; rw [upd_same] at e; cases e; exact new
    · rw [upd_ne hb] at e
      exact (I.hok b u e).stay (fun c v _ q => q) (fun c q => by rw [upd_ne (nn c _ q)]; exact q) fun c xs q => by rw [upd_ne (nn c _ q)]; exact q

section
variable {X : Cx} {pins : List (Addr × Obj)} {σ : St} {H H' : Hp} {s s' : Shared} {scope : Scope} {own fr : List Str} {js : List Nat} {fp : List Addr} {C D : Addr}
/-- behind the block -/
theorem compOut {ys : List V} {its : List Value} {n : Nat} (I : Inv X pins σ H s) (f2 : ∀ b ∈ fp, FpOk X pins H b) (hD : s.heap.objs.size ≤ D) (I' : Inv (compCx X scope (own ++ fr) fp pins s H C) [(D, { cls := .type "list", data := .seq its.toArray n })] (cst own.length js σ) H' s')
    (rv : Vals ys its) (hz : ys.length ≤ sizeLine) : Inv X pins σ (upd H' D (.lst ys)) s' ∧ H' D = none := by
  have pD := I'.pin (D, { cls := .type "list", data := .seq its.toArray n }) (List.mem_append_right _ (List.mem_singleton.mpr rfl))
  have I1 : Inv X pins σ H' s' := I.call' I'.os I'.base I'.hok I'.bare fun b hb => ⟨(f2 b hb).2.2.2.1, (f2 b hb).2.1, (f2 b hb).2.2.2.2.1, (f2 b hb).2.2.2.2.2⟩
  refine ⟨I1.track pD.2.1 (Nat.le_trans I.sz hD) (Nat.ne_of_gt (Nat.lt_of_lt_of_le I.lt hD)) (fun x c e => ?_) (fun p hp => ?_) ⟨hz, its, n, rv, pD.1⟩, pD.2.1⟩
  · obtain ⟨v, z⟩ := I.cell x c e
    exact Nat.ne_of_lt (Nat.lt_of_lt_of_le z.lt hD)
  · exact Nat.ne_of_lt (Nat.lt_of_lt_of_le (Heap.lt_size (I.pin p hp).1) hD)
/-- the block's dict goes -/
theorem compGo {pins0 : List (Addr × Obj)} {σ0 σ1 : St} {H0 H1 : Hp} {h' : Heap} (I0 : Inv X pins0 σ0 H0 s) (I : Inv X pins0 σ1 H1 s') (hC : s.heap.objs.size ≤ C) (hn : H1 C = none) (hs : Heap.SameBut C s'.heap h') : Inv X pins0 σ1 H1 { s' with heap := h' } := by
  refine I.turned (t' := s'.toks) (it := C) (fun b o hb e => (hs.2 b hb).trans e) hn (Nat.ne_of_gt (Nat.lt_of_lt_of_le I0.lt hC)) (.inr (Nat.le_trans I0.sz hC)) (fun x c e => ?_) (fun p hp => ?_)
  · obtain ⟨v, z⟩ := I0.cell x c e
    exact Nat.ne_of_lt (Nat.lt_of_lt_of_le z.lt hC)
  · exact Nat.ne_of_lt (Nat.lt_of_lt_of_le (Heap.lt_size (I0.pin p hp).1) hC)
end

/-- [elt for tg in iter if ..] -/
def tComp (own : Nat) (js : List Nat) (wi : TI) (g : TG) (tt : TT) (te : TE) : TE := fun σ H Q => wi σ H fun J H1 => compRd own js g tt te σ J H1 fun ys H2 => ∀ D, H2 D = none → Q (.ref D) (upd H2 D (.lst ys))
/-- name = [..] -/
def sComp (i : Nat) (own : Nat) (js : List Nat) (wi : TI) (g : TG) (tt : TT) (te : TE) : TS := fun E σ H => wi σ H fun J H1 => compRd own js g tt te σ J H1 fun ys H2 => ∀ D, H2 D = none → E.nx (σ.set i (some (.ref D))) (upd H2 D (.lst ys))

section
variable {X : Cx} {scope : Scope} {own fr : List Str} {js : List Nat} {elt tg iter : Expr} {ifs : List Expr} {pos : Pos} {wi : TI} {g : TG} {tt : TT} {te : TE}
theorem pe_comp {sc : Scope} {XN : List Str} (hsc : X.env.scope = sc) (hXN : X.N = XN) (hc : X.calm = true) (cs : CompSc sc XN scope own fr js) (hi : PI X tg iter wi) (hg : ∀ fp pins s H C, PG (compCx X scope (own ++ fr) fp pins s H C) tg g)
    (ht : ∀ fp pins s H C, PTs (compCx X scope (own ++ fr) fp pins s H C) ifs tt) (he : ∀ fp pins s H C, PE (compCx X scope (own ++ fr) fp pins s H C) elt te)
    (hs : ∀ x, foldedSetIterable iter X.env x = pure x := by intro _; rfl) : PE X (.ListComp elt [⟨tg, iter, ifs, 0⟩] scope pos) (tComp own.length js wi g tt te) := by
  subst hsc hXN
  intro pins s σ H Q I h
  rw [eval_ListComp]
  refine wpAny_comprehension_free (use := none) rfl hs (closureFor_clFrom fun y hy e => I.ok.has y.1 (cs.free y hy e)) cs.kind cs.loc (thn (hi pins s σ H _ I h) fun v s1 h1 => thn h1 fun itv s2 h2 => ?_)
  obtain ⟨it, fp, tn, J, H2, e, I2, T, st2, f2, rd⟩ := h2
  subst e
  refine comp_run (RR := fun acc C => compPost (model X.prog X.w) X.A X.xe none (EP X pins σ Q) acc C) hc I2 cs T st2 f2 (fun C => hg _ _ _ _ C) (fun C => ht _ _ _ _ C) (fun C => he _ _ _ _ C) rd ?_
  intro D C s' H' ys its n hD hC hDC I' rv hz q
  obtain ⟨m, hm, _⟩ := I'.loc
  obtain ⟨I3, hn3⟩ := compOut I2 f2 hD I' rv hz
  refine ⟨m, hm, fun h' hs' => ⟨.ref D, _, compGo I2 I3 hC ?_ hs', rfl, q D hn3⟩⟩
  rw [upd_ne (Ne.symm hDC)]
  exact I'.free
theorem ps_comp {i : Nat} {y : Str} {py spos : Pos} (hN : X.N.Nodup) (hi' : X.N[i]? = some y) (hy : X.env.scope.names.lookup y = some .local) (hsw : swapsWith (.ListComp elt [⟨tg, iter, ifs, 0⟩] scope pos) (some (.Name y py)) spos.line X.env = pure true)
    {sc : Scope} {XN : List Str} (hsc : X.env.scope = sc) (hXN : X.N = XN) (hc : X.calm = true) (cs : CompSc sc XN scope own fr js) (hi : PI X tg iter wi) (hg : ∀ fp pins s H C, PG (compCx X scope (own ++ fr) fp pins s H C) tg g)
    (ht : ∀ fp pins s H C, PTs (compCx X scope (own ++ fr) fp pins s H C) ifs tt) (he : ∀ fp pins s H C, PE (compCx X scope (own ++ fr) fp pins s H C) elt te)
    (hs : ∀ x, foldedSetIterable iter X.env x = pure x := by intro _; rfl) : PS X (.Assign [.Name y py] (.ListComp elt [⟨tg, iter, ifs, 0⟩] scope pos) spos) (sComp i own.length js wi g tt te) := by
  subst hsc hXN
  intro pins s σ H E I h
  rw [exec_Assign_Name_used _ _ _ _ hsw]
  refine wpAny_bind (wpAny_standAt (wpAny_bind ?_))
  show wpAny _ X.A (do let _ ← comprehension (.ListComp elt [⟨tg, iter, ifs, 0⟩] scope pos) scope X.env _ (newList []) false (eval iter X.env) (some (assign (.Name y py) X.env))) _ _ s
  refine wpAny_bind (wpAny_mono (wpAny_comprehension_free (use := some (assign (.Name y py) X.env)) (Q := fun _ s' => SP X pins E .next s') rfl hs (closureFor_clFrom fun y hy e => I.ok.has y.1 (cs.free y hy e)) cs.kind cs.loc
    (thn (hi pins s σ H _ I h) fun v s1 h1 => thn h1 fun itv s2 h2 => ?_)) (fun _ s' hq => wpAny_pure (wpAny_pure hq)) fun _ _ e => e)
  obtain ⟨it, fp, tn, J, H2, e, I2, T, st2, f2, rd⟩ := h2
  subst e
  refine comp_run (RR := fun acc C => compPost (model X.prog X.w) X.A X.xe (some (assign (.Name y py) X.env)) (fun _ s' => SP X pins E .next s') acc C) hc I2 cs T st2 f2 (fun C => hg _ _ _ _ C) (fun C => ht _ _ _ _ C) (fun C => he _ _ _ _ C) rd ?_
  intro D C s' H' ys its n hD hC hDC I' rv hz q
  obtain ⟨m, hm, _⟩ := I'.loc
  obtain ⟨I3, hn3⟩ := compOut I2 f2 hD I' rv hz
  show wpAny _ X.A (assign (.Name y py) X.env (.ref D)) _ _ _
  refine wpAny_assign_Name (store_ok2 I3 hN hi' (.inl hy) (v := .ref D) rfl (fun s4 I4 hsb => ?_) (.inr hy))
  obtain ⟨a, sb, ha⟩ := hsb
  have hCa : C ≠ a := by
    rcases ha with z | z
    · rw [z]; exact Nat.ne_of_gt (Nat.lt_of_lt_of_le I2.lt hC)
    · obtain ⟨v, q⟩ := I2.cell y a z
      exact Nat.ne_of_gt (Nat.lt_of_lt_of_le q.lt hC)
  have hm' : s'.heap.Ns C m := hm
  refine ⟨m, hm'.sameBut sb hCa, fun h' hs' => ⟨_, _, compGo I2 I4 hC ?_ hs', q D hn3⟩⟩
  rw [upd_ne (Ne.symm hDC)]
  exact I'.free
end

/-! ### the forms one uses -/
/-- what is to be shown of a comprehension, whatever it walks: n turns, the invariant Pv over the turn, the list so far and the heap -/
theorem comp_by {J : It} {n : Nat} {own : Nat} {js : List Nat} {g : TG} {tt : TT} {te : TE} {σ : St} {H : Hp} {Qf : List V → Hp → Prop} (Pv : Nat → List V → Hp → Prop) (h0 : Pv 0 [] H) (hz : n ≤ 1000)
    (hlen : ∀ i ys H2, Pv i ys H2 → ys.length ≤ i) (hgo : ∀ i ys H2, i < n → Pv i ys H2 → J.go i H2) (hstop : ∀ ys H2, Pv n ys H2 → J.stop n H2 ∧ Qf ys H2)
    (hs : ∀ i ys H2 x H3, i < n → Pv i ys H2 → J.yld i H2 x H3 → g x (cst own js σ) H3 fun σ3 H4 => tt σ3 H4 fun b H5 => if b = true then te σ3 H5 fun y H6 => Pv (i + 1) (ys ++ [y]) H6 else Pv (i + 1) ys H5) :
    compRd own js g tt te σ J H Qf := by
  refine ⟨fun i m ys H2 => m = n - i ∧ i ≤ n ∧ Pv i ys H2, ⟨n, by simp, Nat.zero_le _, h0⟩, ?_⟩
  rintro i m ys H2 ⟨rfl, hi, p⟩
  by_cases hlt : i < n
  · refine .inr ⟨hgo i ys H2 hlt p, ?_, Pv (i + 1), fun ys' H3 p' => ⟨n - (i + 1), by omega, rfl, hlt, p'⟩, fun x H3 y => hs i ys H2 x H3 hlt p y⟩
    have := hlen i ys H2 p
    exact Nat.lt_of_le_of_lt (show ys.length ≤ 1000 by omega) (by decide)
  · have e : i = n := by omega
    subst e
    exact .inl (hstop ys H2 p)
theorem fm_len {f : Nat → Option V} (i : Nat) : ((List.range i).filterMap f).length ≤ i := by
  refine Nat.le_trans (List.length_filterMap_le _ _) ?_
  rw [List.length_range]
  exact Nat.le_refl _
theorem fm_succ {f : Nat → Option V} (i : Nat) : (List.range (i + 1)).filterMap f = (List.range i).filterMap f ++ (f i).toList := by
  rw [List.range_succ, List.filterMap_append]
  congr 1
/-- only new things come; turn i gives f i -/
theorem comp_pure {J : It} {n : Nat} {own : Nat} {js : List Nat} {g : TG} {tt : TT} {te : TE} {σ : St} {H : Hp} {Qf : List V → Hp → Prop} (f : Nat → Option V) (hz : n ≤ 1000)
    (hgo : ∀ i H2, i < n → Same H H2 → J.go i H2) (hstop : ∀ H2, Same H H2 → J.stop n H2) (hd : ∀ H', Same H H' → Qf ((List.range n).filterMap f) H')
    (hs : ∀ i ys H2 x H3 (N : List V → Hp → Prop), i < n → Same H H2 → J.yld i H2 x H3 → (∀ H4, Same H H4 → N (ys ++ (f i).toList) H4) →
      g x (cst own js σ) H3 fun σ3 H4 => tt σ3 H4 fun b H5 => if b = true then te σ3 H5 fun y H6 => N (ys ++ [y]) H6 else N ys H5) :
    compRd own js g tt te σ J H Qf := by
  refine comp_by (n := n) (fun i ys H2 => Same H H2 ∧ ys = (List.range i).filterMap f) ⟨Same.refl H, rfl⟩ hz (fun i ys H2 ⟨_, e⟩ => by rw [e]; exact fm_len i) (fun i ys H2 hi ⟨sm, _⟩ => hgo i H2 hi sm)
    (fun ys H2 ⟨sm, e⟩ => ⟨hstop H2 sm, by rw [e]; exact hd H2 sm⟩) ?_
  rintro i ys H2 x H3 hi ⟨sm, rfl⟩ y
  refine hs i _ H2 x H3 (fun ys' H' => Same H H' ∧ ys' = (List.range (i + 1)).filterMap f) hi sm y fun H4 s4 => ⟨s4, ?_⟩
  rw [fm_succ]
/-- over a list -/
theorem comp_list {K : PySem.W.Frag} {a : Addr} {xs : List V} {own : Nat} {js : List Nat} {g : TG} {tt : TT} {te : TE} {σ : St} {H : Hp} {Qf : List V → Hp → Prop} (f : Nat → Option V) (hl : SqL K H a xs) (hz : xs.length ≤ 1000)
    (hd : ∀ H', Same H H' → Qf ((List.range xs.length).filterMap f) H')
    (hs : ∀ (i : Nat) ys H2 x (N : List V → Hp → Prop), xs[i]? = some x → Same H H2 → (∀ H4, Same H H4 → N (ys ++ (f i).toList) H4) →
      g x (cst own js σ) H2 fun σ3 H4 => tt σ3 H4 fun b H5 => if b = true then te σ3 H5 fun y H6 => N (ys ++ [y]) H6 else N ys H5) : compRd own js g tt te σ (Itl K a) H Qf := by
  refine comp_pure f hz (fun i H2 hi sm => ⟨xs, xs[i], sm.seq hl, by simp [hi]⟩) (fun H2 sm => ⟨xs, sm.seq hl, Nat.le_refl _⟩) hd ?_
  intro i ys H2 x H3 N hi sm y hN
  obtain ⟨e, y⟩ := y
  subst e
  exact hs i ys _ x N (y xs (sm.seq hl)) sm hN
end L2

namespace L2
open PySem PySem.Spec PyProof.Rows

/-- several records of ours have turned -/
theorem Inv.turnedL {X : Cx} {pins : List (Addr × Obj)} {σ : St} {H : Hp} {s : Shared} {h' : Heap} {t' : Nat} {ch : List Addr} (I : Inv X pins σ H s) (k : ∀ b o, b ∉ ch → s.heap.get? b = some o → h'.get? b = some o) (f : ∀ b ∈ ch, FpOk X pins H b) :
    Inv X pins σ H { s with heap := h', toks := t' } := by
  have nit : ∀ b u, H b = some u → b ∉ ch := fun b u e z => by rw [(f b z).1] at e; cases e
  refine I.step (g' := s.gens) (d' := s.drawn) (ch := ch) (fun b hb => ?_) (fun b o _ _ hc e _ => k b o hc e) (fun b o _ _ hc e _ => ⟨o.slots, k b o hc e⟩) (fun _ _ _ _ n => n)
    (fun b o hc e => ⟨o, k b o hc e⟩) (fun _ _ e => e) (fun _ _ _ e => e) (fun b ps e => ⟨#[], by rw [e]; simp⟩) (fun m hm => ?_) (fun b u e => ?_) I.bare
  · obtain ⟨f0, f1, f2, f3, f4, f5⟩ := f b hb
    exact ⟨f3, f1, f4, f5⟩
  · obtain ⟨o, es, ep, ho, r⟩ := hm
    exact ⟨o, es, ep, k _ o (fun z => (f _ z).2.1 rfl) ho, r⟩
  · refine (I.hok b u e).stay (fun c v hc q => k c v ?_ q) (fun _ q => q) fun _ _ q => q
    rcases hc with z | z
    · rw [z]; exact nit b u e
    · exact nit c _ z

/-! ### enumerate(list), zip(list, list), unpacked on the spot -/
def Ite (K : PySem.W.Frag) (a : Addr) : It :=
  ⟨fun i H => ∃ xs x, SqL K H a xs ∧ xs[i]? = some x, fun i H x H' => ∃ p y, x = .ref p ∧ H p = none ∧ (∀ xs, SqL K H a xs → xs[i]? = some y) ∧ H' = upd H p (.tup [.int i, y]), fun i H => ∃ xs, SqL K H a xs ∧ xs.length ≤ i⟩
theorem turn_enum {P : Program} {w : World} {K : PySem.W.Frag} {elts : List Expr} {x1} {tpos : Pos} (a e it : Addr) (hei : e ≠ it) :
    Turn P w K (.Tuple elts x1 tpos) (Ite K a) [e, it] e (fun i h => (∃ old, IsEnum h e it i old) ∧ h.IsListIter it a i) where
  mem := by simp
  obj := fun i h st b hb => by
    obtain ⟨⟨old, h1⟩, o, h2, c2, d2⟩ := st
    rcases List.mem_cons.mp hb with rfl | hb
    · exact ⟨_, h1, fun v z => by cases z⟩
    · have e' : b = it := by simpa using hb
      subst e'
      exact ⟨o, h2, fun v z => by rw [d2] at z; cases z⟩
  keep := fun i h h' st k => ⟨by obtain ⟨⟨old, h1⟩, _⟩ := st; exact ⟨old, k e (by simp) _ h1⟩, st.2.at fun o q => k it (by simp) o q⟩
  item := by
    intro X hP hw hK hc i pins s σ H E I hf st hg
    subst hP hw hK
    obtain ⟨xs, x, hq, hx⟩ := hg
    obtain ⟨⟨old, he⟩, hit⟩ := st
    obtain ⟨its, rv, p, hz⟩ := I.list hq
    obtain ⟨u, hu, ru⟩ := rv.get hx
    refine wpAny_pyNext_enum_item he hit p.isList (x := u) (by simpa using hu) hei fun h' ho hit' hT hsz hk => ?_
    refine ⟨_, rfl, wpAny_letOwnedTupleGo_enum ho fun h2 he2 hs2 => ?_⟩
    have hp : s.heap.objs.size ≠ e := Nat.ne_of_gt (Heap.lt_size he)
    have hpi : s.heap.objs.size ≠ it := by obtain ⟨o, z, _⟩ := hit; exact Nat.ne_of_gt (Heap.lt_size z)
    have I1 : Inv X pins σ H { s with heap := h2, toks := s.toks + 1 } := I.turnedL (ch := [e, it]) (fun b o hb q => hs2.extBut b o (fun z => hb (by simp [z])) (hk b o (fun z => hb (by simp [z])) (fun z => hb (by simp [z])) q)) hf
    have hfr := I.fresh
    have fpo := I.fpOk (H' := H) (Nat.le_refl _) hfr
    have hT2 : h2.get? s.heap.objs.size = some { cls := .type "tuple", data := .seq #[.int i s.toks, u] } := hs2.extBut _ _ hp hT
    refine ⟨.ref s.heap.objs.size, upd H s.heap.objs.size (.tup [.int i, x]), I1.track hfr (Nat.le_trans I.sz (Nat.le_refl _)) fpo.2.1 fpo.2.2.2.2.1 fpo.2.2.2.2.2 ?_, rfl, ⟨_, x, rfl, hfr, fun zs hy => by rw [I.list_inj hy hq]; exact hx, rfl⟩, ⟨⟨_, by simpa using he2⟩, hit'.extBut hs2.extBut (Ne.symm hei)⟩, fun b hb => ?_⟩
    · exact ⟨by show 2 ≤ sizeLine; decide, [.int i s.toks, u], .cons ⟨_, rfl⟩ (.cons ru .nil), _, hT2, rfl, _, rfl⟩
    · rw [upd_ne ?_]
      · exact (hf b hb).1
      · rcases List.mem_cons.mp hb with rfl | hb
        · exact Ne.symm hp
        · have e' : b = it := by simpa using hb
          subst e'; exact Ne.symm hpi
  done := by
    intro X hP hw hK hc i pins s σ H E I hf st hg
    subst hP hw hK
    obtain ⟨xs, hq, hx⟩ := hg
    obtain ⟨⟨old, he⟩, hit⟩ := st
    obtain ⟨its, rv, p, hz⟩ := I.list hq
    obtain ⟨f0, f1, f2, f3, f4, f5⟩ := hf it (by simp)
    have hl := rv.length
    exact wpAny_pyNext_enum_end (I.ok.hd hc) he hit p.isList (by simp; omega) fun h' eb => ⟨rfl, I.turned (t' := s.toks) (fun b o hb e => eb b o hb e) f0 f1 f3 f4 f5⟩
  self := fun _ _ _ _ _ st h => by
    obtain ⟨⟨old, he⟩, _⟩ := st
    exact wpAny_pyIter_enum he h

section
variable {X : Cx} {elts : List Expr} {x1 : Nat} {tpos : Pos}
def iEnum (K : PySem.W.Frag) (ta : TA) : TI := fun σ H R => ta σ H fun vs H1 => ∃ a, vs = [.ref a] ∧ (∃ xs, SqL K H1 a xs) ∧ R (Ite K a) H1
theorem pi_enum {a : Expr} {ta : TA} {p pos : Pos} (hg : Gl X "enumerate") (hm : X.mg "enumerate" = none) (ha : PA X [a] ta) (hs : starEach [a] X.env = [(false, eval a X.env)] := by rfl) :
    PI X (.Tuple elts x1 tpos) (.Call (.Name "enumerate" p) [a] [] pos) (iEnum X.K ta) := by
  intro pins s σ H R I h
  refine Call_ (ld_blt I hg hm boot_enumerate (PyProof.Rows.callWith_type1 (thn (ha pos pins s σ H _ I h) fun us s1 ⟨vs, H1, I1, r1, q1⟩ => ?_) hs rfl))
  obtain ⟨a, e, ⟨xs, hq⟩, q⟩ := q1
  subst e
  obtain ⟨u, rfl, ru⟩ := r1.one
  cases ru
  obtain ⟨its, rv, pl, hz⟩ := I1.list hq
  refine call_enumerate_list pl.isList fun h' he hit hsz hk => ?_
  refine wpAny_pyIter_enum he ?_
  have I2 : Inv X pins σ H1 { s1 with heap := h' } := I1.kept (t' := s1.toks) hk
  refine ⟨_, [s1.heap.objs.size + 1, s1.heap.objs.size], _, _, H1, rfl, I2, turn_enum a _ s1.heap.objs.size (Nat.succ_ne_self _), ⟨⟨_, he⟩, hit⟩, fun b hb => ?_, q⟩
  have hb' : s1.heap.objs.size ≤ b := by
    simp at hb
    exact hb.elim (fun z => z ▸ Nat.le_succ _) fun z => z ▸ Nat.le_refl _
  exact I1.fpOk hb' (I1.hok.fresh hb')
end

theorem Same.upd {H H' : Hp} {p : Addr} {o : HO} (e : Same H H') (h : H' p = none) : Same H (upd H' p o) := fun b u q => by
  have := e b u q
  rw [upd_ne (ne_of_none this h)]; exact this
/-- enumerate: the pair is at hand as a tuple -/
theorem comp_enum {K : PySem.W.Frag} {a : Addr} {xs : List V} {own : Nat} {js : List Nat} {g : TG} {tt : TT} {te : TE} {σ : St} {H : Hp} {Qf : List V → Hp → Prop} (f : Nat → Option V) (hl : SqL K H a xs) (hz : xs.length ≤ 1000)
    (hd : ∀ H', Same H H' → Qf ((List.range xs.length).filterMap f) H')
    (hs : ∀ (i : Nat) ys H2 x p (N : List V → Hp → Prop), xs[i]? = some x → Same H H2 → SqT K H2 p [.int i, x] → (∀ H4, Same H H4 → N (ys ++ (f i).toList) H4) →
      g (.ref p) (cst own js σ) H2 fun σ3 H4 => tt σ3 H4 fun b H5 => if b = true then te σ3 H5 fun y H6 => N (ys ++ [y]) H6 else N ys H5) : compRd own js g tt te σ (Ite K a) H Qf := by
  refine comp_pure f hz (fun i H2 hi sm => ⟨xs, xs[i], sm.seq hl, by simp [hi]⟩) (fun H2 sm => ⟨xs, sm.seq hl, Nat.le_refl _⟩) hd ?_
  intro i ys H2 x H3 N hi sm y hN
  obtain ⟨p, y, e, hp, hx, e'⟩ := y
  subst e e'
  exact hs i ys _ y p N (hx xs (sm.seq hl)) (sm.upd hp) (SqT.of upd_same) hN
end L2

namespace L2
open PySem PySem.Spec PyProof.Rows

theorem vals_bl : ∀ {bs : List Bool} {us : List Value}, Vals (bs.map V.bl) us → us = bs.map Value.bool
  | [], _, .nil => rfl
  | b :: bs, _, .cons r t => by
    have e := vals_bl t
    cases r
    rw [e]; rfl
theorem range_all_getD (bs : List Bool) : (List.range bs.length).all (fun i => (bs[i]?).getD true) = bs.all id := by
  rw [Bool.eq_iff_iff, List.all_eq_true, List.all_eq_true]
  constructor
  · intro h b hb
    obtain ⟨i, hi, e⟩ := List.mem_iff_getElem.mp hb
    have := h i (List.mem_range.mpr hi)
    rw [List.getElem?_eq_getElem hi] at this
    rw [← e]; exact this
  · intro h i hi
    have hi' := List.mem_range.mp hi
    rw [List.getElem?_eq_getElem hi']
    exact h _ (List.getElem_mem hi')
section
variable {X : Cx}
theorem call_all_bl (hc : X.calm = true) : CallR X (.builtin "all") (fun xs H Q => ∃ (p : Addr) (bs : List Bool), xs = [.ref p] ∧ SqL X.K H p (bs.map V.bl) ∧ Q (.bl (bs.all id)) H) := by
  intro pins s σ H xs us Q I rv h
  obtain ⟨p, bs, rfl, hq, q⟩ := h
  obtain ⟨u, rfl, ru⟩ := rv.one
  cases ru
  obtain ⟨its, rv', pl, hz⟩ := I.list hq
  have ei := vals_bl rv'
  subst ei
  have hlt : p < s.heap.objs.size := by obtain ⟨o, n, e, _⟩ := pl; exact Heap.lt_size e
  refine call_all_walk (wpAny_pyIter_list pl.isList ?_)
  refine ⟨s.heap.objs.size, _, _, _, _, _, fun i => (bs[i]?).getD true, rfl, Walks.list (A := X.A.in1) (I.ok.hd hc) _ p (Nat.ne_of_lt hlt) _, ⟨⟨_, Heap.get?_push_size _ rfl, rfl, rfl⟩, pl.isList.push _⟩, ?_, fun h' tk hk => ?_⟩
  · intro i v s' Q' E' hv hQ
    have hv' : (bs.map Value.bool)[i]? = some v := by simpa using hv
    rw [List.getElem?_map] at hv'
    cases e : bs[i]? with
    | none => rw [e] at hv'; cases hv'
    | some b =>
      rw [e] at hv'
      have : Value.bool b = v := Option.some.inj hv'
      subst this
      refine wpAny_truthy_bool ?_
      dsimp only at hQ
      rw [e] at hQ
      exact hQ
  · refine ⟨.bl _, H, I.kept (t' := tk) fun b o e => hk b o (fun z => ?_) (Heap.get?_push_of_some _ e), rfl, ?_⟩
    · have : b = s.heap.objs.size := by simpa using z
      exact absurd (Heap.lt_size e) (by rw [this]; exact Nat.lt_irrefl _)
    · have e2 : (bs.map Value.bool).toArray.size = bs.length := by simp
      rw [e2, range_all_getD]
      exact q
/-- isinstance(x, T), T a built-in type or an own class by its name -/
theorem call_isi : CallR X (.builtin "isinstance") (fun xs H Q => ∃ (x : V) (n : String) (t : Value) (b : Bool), xs = [x, .ty n] ∧ TyOf X.K H x t ∧ PySem.W.kitOne X.K t (.type n) = some b ∧ Q (.bl b) H) := by
  intro pins s σ H xs us Q I rv h
  obtain ⟨x, n, t, b, rfl, ty, e, q⟩ := h
  obtain ⟨u, u2, rfl, ru, ru2⟩ := rv.two
  cases ru2
  exact isinst_ok I ru ty e fun tk => ⟨.bl b, H, I.tok tk, rfl, q⟩
/-- xs != [] -/
theorem op_ne_nil (hu : X.A.units < cLine) : OpR X (compareOp .NotEq) (fun x y H Q => ∃ (a b : Addr) (xs : List V), x = .ref a ∧ y = .ref b ∧ SqL X.K H a xs ∧ SqL X.K H b [] ∧ Q (.bl (!xs.isEmpty)) H) := by
  intro pins s σ H x y v u Q I rx ry h
  obtain ⟨a, b, xs, rfl, rfl, ha, hb, q⟩ := h
  cases rx
  cases ry
  obtain ⟨its, rv, pl, hz⟩ := I.list ha
  obtain ⟨its2, rv2, pl2, hz2⟩ := I.list hb
  cases rv2
  cases rv with
  | nil =>
    refine SeqAt.RcNeAt.lists pl.isList pl2.isList rfl hu (e := fun _ => true) (fun j h1 h2 => absurd h1 (by simp)) _ _ _ _ ⟨.bl _, H, I, rfl, q⟩
  | cons r t =>
    exact SeqAt.RcNeAt.lists_lengths pl.isList pl2.isList (by simp) hu _ _ _ _ ⟨.bl _, H, I, rfl, q⟩
end
end L2

namespace L2
open PySem PySem.Spec PyProof.Rows

section
variable {prog : Program} {w : World} {A : Around} {R : Result → Shared → Prop}
end

section
variable {X : Cx}
variable {x : Str} {p pos : Pos} {e : Expr} {es : List Expr} {kws : List Keyword} {t tk : TA} {id : String} {ks : List Str} {r : List V → List V → Hp → VK → Prop}
end
end L2

namespace L2
open PySem PySem.Spec PyProof.Rows

/-! ### defs by their names -/
/-- the def x of the text stands under its name -/
def DefIs (K : PySem.W.Frag) (mg : Str → Option Value) (x : Str) (st : Stmt) (ps : List Str) : Prop := ∃ a fd, Fun K x x st a fd ∧ Binds K fd ps [] ∧ mg x = some (.ref a)
/-- .. and keeps its promise -/
def Has (P : Program) (w : World) (K : PySem.W.Frag) (mg : Str → Option Value) (base : Heap) (k : Nat) (x : Str) (ps : List Str) (sp : Sp) : Prop :=
  ∃ a fd, PySem.W.keepIn K (.ref a) = true ∧ Binds K fd ps [] ∧ mg x = some (.ref a) ∧ FnOk P w K mg base CX0 k a fd ps sp
section
variable {P : Program} {w : World} {K : PySem.W.Frag} {mg : Str → Option Value} {base : Heap}
theorem DefIs.has {x : Str} {st : Stmt} {N ps : List Str} {k : Nat} {sp : Sp} (D : DefIs K mg x st ps) (S : FnScope N ps (defScope st)) (len : ∀ vs H Q E, sp vs H Q E → vs.length = ps.length)
    (hbody : ∀ (f : Addr) (cdv : Value) (A : Around) (outer : List Env) (s : Shared) (H : Hp) (vs : List V) (Q : VK) (E : XK), Room k (A.deeper (envOfC x (defScope st) s.heap.objs.size f cdv)) → sp vs H Q E →
      ∃ t, PSs (cxOf CX0 P w K mg base N x (defScope st) f cdv A outer s H E).nox (defBody st) t ∧ t { nx := fun _ H' => Q .non H', rt := Q } (start N vs) H) : Has P w K mg base (k + 1) x ps sp := by
  obtain ⟨a, fd, F, b, m⟩ := D
  exact ⟨a, fd, F.kp, b, m, F.ok S len fun cdv A outer s H vs Q E hr h => hbody a cdv A outer s H vs Q E hr h⟩
end
theorem pe_fn {X : Cx} {k : Nat} {x : Str} {ps : List Str} {sp : Sp} {p pos : Pos} {e : Expr} {es : List Expr} {t : TA} (h : Has X.prog X.w X.K X.mg X.base k x ps sp) (hr : Room k X.A) (hg : Gl X x) (ha : PA X (e :: es) t)
    (hdb : (x == ("__debug__" : Str)) = false := by decide) (he : starEach (e :: es) X.env = (false, eval e X.env) :: starEach es X.env := by rfl) (hpl : (backTo pos (starEach es X.env)).any (·.1) = false := by rfl) :
    PE X (.Call (.Name x p) (e :: es) [] pos) (tCall sp [] E0 t) := by
  obtain ⟨a, fd, h1, h2, h3, h4⟩ := h
  exact pe_call h4 hr hg h3 h1 h2 .nil pass0 ha hdb he hpl

/-- a built-in type's name as a value -/
theorem pe_ty {X : Cx} {x : Str} {n : String} {pos : Pos} (hg : Gl X x) (hm : X.mg x = none) (hv : bootBuiltins x = some (.type n)) (hn : x ≠ "__name__" := by decide) (hd : (x == ("__debug__" : Str)) = false := by decide) : PE X (.Name x pos) (tC (.ty n)) :=
  pe_bltn (v := .ty n) hg hm hv rfl hn hd

theorem iffF {p : Prop} (h : ¬ p) : (false = true ↔ p) := ⟨fun z => (Bool.false_ne_true z).elim, fun z => (h z).elim⟩
theorem iffT {p : Prop} (h : p) : (true = true ↔ p) := ⟨fun _ => h, fun _ => rfl⟩

theorem neI {a b : Int} (h : (!decide (V.int a = V.int b)) = true) : a ≠ b := fun e => by
  subst e
  rw [decide_eq_true rfl] at h
  cases h
theorem eqI {a b : Int} (h : ¬ (!decide (V.int a = V.int b)) = true) : a = b := by
  cases e : decide (V.int a = V.int b) with
  | true => exact V.int.inj (of_decide_eq_true e)
  | false => rw [e] at h; exact absurd rfl h
theorem eqI' {a b : Int} (h : decide (V.int a = V.int b) = true) : a = b := V.int.inj (of_decide_eq_true h)
/-! ### the written part by its own letter (for a comprehension's block) -/
section
variable {X : Cx} {K : PySem.W.Frag}
theorem pg_tupK {es : List Expr} {k : Nat} {t : TGs} {n : Nat} {pos : Pos} (hK : X.K = K) (hc : X.calm = true) (h : PGs X es t) (hn : (assignEach es X.env).length = n := by rfl) (hst : (assignEach es X.env).findIdx? (·.1) = none := by rfl) :
    PG X (.Tuple es k pos) (gTup K n t) := hK ▸ pg_tup hc h hn hst
theorem ix_listK (hK : X.K = K) : IxR X (rIxL K) := hK ▸ ix_list
theorem op_in_seqK (hK : X.K = K) : OpR X (compareOp .In) (rIn K false) := hK ▸ op_in_seq
theorem op_notIn_seqK (hK : X.K = K) : OpR X (compareOp .NotIn) (rIn K true) := hK ▸ op_notIn_seq
theorem call_list_ofK (hK : X.K = K) : CallR X (.type "list") (fun xs H Q => ∃ p ys, xs = [.ref p] ∧ (SqL K H p ys ∨ SqT K H p ys) ∧ ∀ l, H l = none → Q (.ref l) (upd H l (.lst ys))) := hK ▸ call_list_of
end

/-! ### tables -/
abbrev HRow := List (Option Int)
abbrev HTab := List HRow
def cellV : Option Int → V
  | none => .non
  | some i => .int i
abbrev RowAt (K : PySem.W.Frag) (H : Hp) (a : Addr) (r : HRow) : Prop := SqL K H a (r.map cellV)
abbrev IntsAt (K : PySem.W.Frag) (H : Hp) (a : Addr) (ns : List Int) : Prop := SqL K H a (ns.map V.int)
def TabAt (K : PySem.W.Frag) (H : Hp) (a : Addr) (T : HTab) : Prop := ∃ as : List Addr, SqL K H a (as.map V.ref) ∧ as.length = T.length ∧ ∀ (i : Nat) b r, as[i]? = some b → T[i]? = some r → RowAt K H b r
theorem get_int {ns : List Int} {i : Nat} {x : V} (h : (ns.map V.int)[i]? = some x) : ∃ n, ns[i]? = some n ∧ x = .int n := by
  rw [List.getElem?_map] at h
  cases e : ns[i]? with
  | none => rw [e] at h; cases h
  | some n => rw [e] at h; exact ⟨n, rfl, (Option.some.inj h).symm⟩
theorem get_cell {r : HRow} {i : Nat} {x : V} (h : (r.map cellV)[i]? = some x) : ∃ c, r[i]? = some c ∧ x = cellV c := by
  rw [List.getElem?_map] at h
  cases e : r[i]? with
  | none => rw [e] at h; cases h
  | some n => rw [e] at h; exact ⟨n, rfl, (Option.some.inj h).symm⟩
theorem get_ref {as : List Addr} {i : Nat} {x : V} (h : (as.map V.ref)[i]? = some x) : ∃ b, as[i]? = some b ∧ x = .ref b := by
  rw [List.getElem?_map] at h
  cases e : as[i]? with
  | none => rw [e] at h; cases h
  | some n => rw [e] at h; exact ⟨n, rfl, (Option.some.inj h).symm⟩
theorem ints_flat (ns : List Int) : (ns.map V.int).all flatV = true := by
  rw [List.all_map]; exact List.all_eq_true.mpr fun _ _ => rfl
theorem inV_int (x : Int) (ns : List Int) : inV (.int x) (ns.map V.int) = decide (x ∈ ns) := by
  unfold inV
  rw [List.any_map, Bool.eq_iff_iff, List.any_eq_true, decide_eq_true_iff]
  constructor
  · rintro ⟨y, hy, e⟩
    have e' : y = x := by simpa [eqV] using e
    exact e' ▸ hy
  · intro h
    exact ⟨x, h, by simp [eqV]⟩
/-- an index that is a place -/
theorem atI_int {α : Type} {xs : List α} {i : Int} {v : α} (h0 : 0 ≤ i) (h : xs[i.toNat]? = some v) : atI xs i = some v := by
  have := atI_nat h
  rwa [Int.toNat_of_nonneg h0] at this
end L2

namespace L2
open PySem PySem.Spec PyProof.Rows

section
variable {prog : Program} {w : World} {A : Around} {R : Result → Shared → Prop}
end

section
variable {X : Cx} {K : PySem.W.Frag}
end
end L2

namespace L2
open PySem PySem.Spec PySem.Calls PyProof.Rows

/-! ### an own exception's __class__ -/
section
variable {prog : Program} {w : World} {A : Around} {E : Value → Shared → Prop} {h : Heap} {g : Array GenState} {d : Drawn} {t : Nat} {os : OsState} {a C : Addr} {o : Obj} {K : PySem.W.Frag}
end
section
variable {X : Cx}
end
end L2

namespace L2
open PySem PySem.Spec PyProof.Rows

/-! ### an exception on its way: everything but it, its trace and the frames' slots is kept -/
section
variable {M : Model} {A : Around} {E : Value → Shared → Prop} {s : Shared} {base : Heap} {D : Addr → Prop} {env : Env} {outer : List Env} {L e : Addr}

end

/-! ### the package behind a call that ends in an exception -/
section
variable {P : Program} {w : World} {H H' : Hp} {h h' : Heap} {a : Addr} {o : HO}
end
section
variable {P : Program} {w : World} {fs : List Addr} {H H' : Hp} {h0 h h' : Heap} {a : Addr} {cls fl fl' : Value}
end
end L2

namespace L2
open PySem PySem.Spec PyProof.Rows

/-! ### own exception classes -/
/-! ### raise -/
section
variable {X : Cx} {E : XK} {C : Addr}
end

/-! ### out of a def -/
section
variable {P : Program} {w : World} {K : PySem.W.Frag} {mg : Str → Option Value} {base : Heap} {N : List Str} {qual : Str} {scope : Scope} {f : Addr} {cd : Value} {A : Around} {outer : List Env} {s : Shared} {H : Hp} {E : XK}
  {pins : List (Addr × Obj)} {σ : St} {H' : Hp} {s' : Shared} {e : Addr} {cls : Value}
end

/-! ### a call whose exception is caught (or passed) by what stands around it; the wish may lean on the names' values -/
section
variable {X : Cx} {CX : CXT} {k : Nat} {f : Addr} {fd : FuncData} {ps : List Str} {sp : Sp} {E : St → XK} {x : Str} {p pos : Pos} {e : Expr} {es : List Expr} {t : TA}
end

/-! ### a name goes -/
section
variable {X : Cx} {pins : List (Addr × Obj)} {σ : St} {H : Hp} {s : Shared}
end
end L2

namespace L2
open PySem PySem.Spec PyProof.Rows

/-! ### try .. except C as n -/
section
variable {X : Cx} {pins : List (Addr × Obj)} {σ : St} {H : Hp} {s : Shared}
end

/-! ### defs that may end in an exception -/
section
variable {P : Program} {w : World} {K : PySem.W.Frag} {mg : Str → Option Value} {base : Heap}
end
end L2

namespace L2
open PySem PySem.Spec PyProof.Rows
section
variable {X : Cx} {a C : Addr} {oe : Obj} {pn : List (Addr × Obj)} {xe : Value → Shared → Prop} {K : PySem.W.Frag}
end
end L2

namespace L2
open PySem PySem.Spec PyProof.Rows
section
variable {X : Cx} {tg : Expr}
end
end L2

namespace L2
open PySem PySem.Spec PyProof.Rows

/-! ### several new objects at once; a code table that grows -/
section
variable {P : Program} {w : World} {fs ex : List Addr} {H H' : Hp} {h h' : Heap} {a : Addr} {ps more : Array Value}
end

/-! ### a lambda -/
end L2

namespace L2
open PySem PySem.Spec PyProof.Rows

/-! ### two tuples, the first that differs tells -/
section
open PySem.SeqAt
open PySem.AutoSeq1 (wpAny_loadPart')
open PySem.MeetsSeq PySem.MeetsSeq2 PySem.MeetsSeq3
end
section
variable {X : Cx} {pins : List (Addr × Obj)} {σ : St}
end

/-! ### min(xs, key=lambda .., default=d) -/
section
variable {X : Cx} {x : Str} {p pos : Pos} {e : Expr} {es : List Expr} {kws : List Keyword} {t tk : TA} {id : String} {ks : List Str} {r : St → List V → List V → Hp → VK → Prop}
end

end L2

namespace L2
open PySem PySem.Spec PyProof.Rows

theorem vals_by : ∀ {xs : List V} {us : List Value}, xs.length = us.length → (∀ (i : Nat) x u, xs[i]? = some x → us[i]? = some u → RelV x u) → Vals xs us
  | [], [], _, _ => .nil
  | x :: xs, u :: us, hl, h => .cons (h 0 x u rfl rfl) (vals_by (by simpa using hl) fun i y v e1 e2 => h (i + 1) y v (by simpa using e1) (by simpa using e2))
  | [], _ :: _, hl, _ => by simp at hl
  | _ :: _, [], hl, _ => by simp at hl
section
variable {X : Cx}
end

/-! ### classes of the text, by their names -/
/-! ### a def whose code object is known (its table takes the codes of its lambdas) -/
/-! ### the law's head, where a code table may grow -/
end L2

namespace L2
open PySem PySem.Spec PyProof.Rows
/-! ### sets of the numbers 0 to 6 whose table is known: what a walk over them needs -/
def subs : List (List Nat) := (List.range 128).map fun b => (List.range 7).filter fun i => b.testBit i
theorem subs_nil : [] ∈ subs := by decide +kernel
theorem subs_ins : ∀ hs ∈ subs, ∀ k ∈ List.range 7, k ∉ hs → (SetTable.insertAt hs.toArray (SetTable.below hs.toArray k) k).toList ∈ subs := by decide +kernel
theorem subs_len : ∀ hs ∈ subs, hs.length ≤ 7 := by decide +kernel
theorem subs_lay : ∀ hs ∈ subs, hs.length = 5 → (SetTable.laid 31 0 0 true true (hs.map Int.ofNat).toArray).map (fun r => (r.1.place, r.2)) = some (hs.toArray, #[0, 1, 2, 3, 4]) := by decide +kernel
/-- the walk by slots: each slot in turn -/
theorem subs_walk : ∀ hs ∈ subs, ∀ i ∈ List.range (hs.length + 1), SetTable.below hs.toArray (if i = 0 then 0 else hs.getD (i - 1) 0 + 1) = i := by decide +kernel
structure SG (t : SetTable) (hs : List Nat) : Prop where
  mem : hs ∈ subs
  place : t.place = hs.toArray
  dum : t.dummies = #[]
  plain : t.plain = true
  mask : t.mask = 31 ∨ (t.mask = 7 ∧ hs.length ≤ 4)
theorem SG.fresh (led : Bool) : SG (.fresh 0 0 led) [] := ⟨subs_nil, rfl, rfl, rfl, .inr ⟨rfl, by decide⟩⟩
theorem SG.fill {t : SetTable} {hs : List Nat} (g : SG t hs) : t.fill = hs.length := by
  unfold SetTable.fill
  rw [g.place, g.dum]
  simp
theorem SG.fits {t : SetTable} {hs : List Nat} (g : SG t hs) : t.fits hs.length = true := by
  unfold SetTable.fits
  rw [g.fill, g.place]
  have := subs_len hs g.mem
  rcases g.mask with e | ⟨e, _⟩
  · simp [e]; omega
  · simp [e]; omega
theorem SG.free {t : SetTable} {hs : List Nat} (g : SG t hs) {k : Nat} (hk : k < 7) (hn : k ∉ hs) : t.freeSlot (k : Int) = some (k, false) := by
  have hb : SetTable.bits (k : Int) = k := by unfold SetTable.bits; omega
  have hst : t.probeStart (k : Int) = { j := k, more := SetTable.runEnd t.mask k - k, i := k, perturb := k, dummy := none } := by
    have e : SetTable.bits (k : Int) % (t.mask + 1) = k := by
      rw [hb]
      rcases g.mask with e | ⟨e, _⟩ <;> (rw [e]; omega)
    unfold SetTable.probeStart
    rw [e, hb]
  have hslot : t.slot k = .empty := by
    unfold SetTable.slot
    have h1 : (t.place[SetTable.below t.place k]? == some k) = false := by
      rw [beq_eq_false_iff_ne]
      intro e
      rw [g.place] at e
      have := List.mem_of_getElem? (by simpa using e : hs[SetTable.below hs.toArray k]? = some k)
      exact hn this
    have h2 : SetTable.has t.dummies k = false := by rw [g.dum]; unfold SetTable.has; simp
    dsimp only
    rw [h1, h2]; rfl
  have hf : 10 * SetTable.turns t.mask = (10 * SetTable.turns t.mask - 1) + 1 := by unfold SetTable.turns; omega
  unfold SetTable.freeSlot SetTable.probe
  rw [hst, hf]
  unfold SetTable.probe.go
  dsimp only
  rw [hslot]
  rfl
theorem SG.lay {t : SetTable} {hs : List Nat} (g : SG t hs) {k : Nat} (hk : k < 7) (hn : k ∉ hs) {es : Array (Int × Value)} (hes : es.toList.map (·.1) = hs.map Int.ofNat) (x : Value) :
    ∃ hs' t', layNew t es (k : Int) x = (SetTable.insertAt es (SetTable.below hs.toArray k) ((k : Int), x), t', false, false) ∧ hs' ∈ subs ∧ hs'.length = hs.length + 1 ∧ t'.place = hs'.toArray ∧ t'.dummies = #[] ∧ t'.plain = true ∧ t'.mask = t.mask ∧ t'.led = t.led ∧ t'.finger = t.finger ∧ t'.moves = t.moves ∧
      (SetTable.insertAt es (SetTable.below hs.toArray k) ((k : Int), x)).toList.map (·.1) = hs'.map Int.ofNat := by
  have hlen : es.size = hs.length := by
    have := congrArg List.length hes
    rw [List.length_map, List.length_map, Array.length_toList] at this
    exact this
  have hin := subs_ins hs g.mem k (List.mem_range.mpr hk) hn
  have hl' : (SetTable.insertAt hs.toArray (SetTable.below hs.toArray k) k).toList.length = hs.length + 1 := by
    have := (SetTable.insertAt_perm hs.toArray (SetTable.below hs.toArray k) k).length_eq
    rw [this]; simp
  have hl2 : (SetTable.insertAt es (SetTable.below hs.toArray k) ((k : Int), x)).size = hs.length + 1 := by
    have := (SetTable.insertAt_perm es (SetTable.below hs.toArray k) ((k : Int), x)).length_eq
    rw [Array.length_toList] at this
    rw [this, ← hlen]; simp
  have hhas : SetTable.has t.dummies k = false := by rw [g.dum]; unfold SetTable.has; simp
  have hput : t.put k = ({ t with place := SetTable.insertAt hs.toArray (SetTable.below hs.toArray k) k }, SetTable.below hs.toArray k) := by
    unfold SetTable.put
    rw [hhas, g.place]
    rfl
  have hfit : ({ t with place := SetTable.insertAt hs.toArray (SetTable.below hs.toArray k) k } : SetTable).fits (hs.length + 1) = true := by
    have h7 := subs_len _ hin
    rw [hl'] at h7
    rw [Array.length_toList] at hl'
    unfold SetTable.fits SetTable.fill
    rw [hl', g.dum]
    rcases g.mask with e | ⟨e, h4⟩
    · simp [e]; omega
    · simp [e]; omega
  refine ⟨(SetTable.insertAt hs.toArray (SetTable.below hs.toArray k) k).toList, { t with place := SetTable.insertAt hs.toArray (SetTable.below hs.toArray k) k }, ?_, hin, hl', by simp, g.dum, g.plain, rfl, rfl, rfl, rfl, ?_⟩
  · unfold layNew
    rw [g.free hk hn]
    dsimp only
    rw [hput]
    dsimp only
    rw [hl2]
    unfold SetTable.orStandIn
    rw [hfit]
    rfl
  · rw [SetTable.toList_insertAt, SetTable.toList_insertAt]
    simp only [List.map_append, List.map_cons, List.map_nil, List.map_take, List.map_drop, hes]
    simp
end L2

namespace L2
open PySem PySem.Spec PyProof.Rows
/-! ### the growth of such a table, as a fact about tables -/
/-- a table behind a new number: five numbers are one too many for the small table -/
structure SG5 (t : SetTable) (hs : List Nat) : Prop where
  mem : hs ∈ subs
  place : t.place = hs.toArray
  dum : t.dummies = #[]
  plain : t.plain = true
  mask : t.mask = 31 ∨ (t.mask = 7 ∧ hs.length ≤ 5)
theorem SG5.fill {t : SetTable} {hs : List Nat} (g : SG5 t hs) : t.fill = hs.length := by
  show t.place.size + t.dummies.size = _
  rw [g.place, g.dum]; simp
/-- either it is not too full, and all is well, or it is the small table with five numbers -/
theorem SG5.cases {t : SetTable} {hs : List Nat} (g : SG5 t hs) : (t.tooFull = false ∧ SG t hs) ∨ (t.tooFull = true ∧ t.mask = 7 ∧ hs.length = 5) := by
  have h7 := subs_len hs g.mem
  have hf : t.tooFull = decide (hs.length * 5 ≥ t.mask * 3) := by show decide (t.fill * 5 ≥ t.mask * 3) = _; rw [g.fill]
  rcases g.mask with e | ⟨e, h5⟩
  · exact .inl ⟨by rw [hf, e]; exact decide_eq_false (by omega), g.mem, g.place, g.dum, g.plain, .inl e⟩
  · by_cases h4 : hs.length ≤ 4
    · exact .inl ⟨by rw [hf, e]; exact decide_eq_false (by omega), g.mem, g.place, g.dum, g.plain, .inr ⟨e, h4⟩⟩
    · exact .inr ⟨by rw [hf, e]; exact decide_eq_true (by omega), e, by omega⟩
/-- five numbers laid anew keep their order, in the table of 32 -/
theorem SG5.relay {t : SetTable} {hs : List Nat} (g : SG5 t hs) (h5 : hs.length = 5) {es : Array (Int × Value)} (key : es.toList.map (·.1) = hs.map Int.ofNat) :
    ∃ t', relayAll t es (SetTable.grown es.size) = (es, t', false) ∧ SG t' hs ∧ t'.led = t.led := by
  have n5 : es.size = 5 := by
    have := congrArg List.length key
    simp only [List.length_map, Array.length_toList] at this
    omega
  have hk : es.map (·.1) = (hs.map Int.ofNat).toArray := Array.toList_inj.mp (by rw [Array.toList_map, key])
  let t' : SetTable := { mask := 31, place := hs.toArray, dummies := #[], finger := t.finger, led := t.led, moves := t.movedTo 31, plain := t.plain }
  have laid31 : SetTable.laid 31 t.finger (t.movedTo 31) t.led t.plain (hs.map Int.ofNat).toArray = some (t', #[0, 1, 2, 3, 4]) := by
    have q := subs_lay hs g.mem h5
    simp only [SetTable.laid, Option.bind_eq_bind, Option.pure_def] at q ⊢
    cases hl : SetTable.layClean 31 (hs.map Int.ofNat).toArray with
    | none => rw [hl] at q; cases q
    | some owner =>
      rw [hl] at q
      have q' := Prod.mk.inj (Option.some.inj q)
      obtain ⟨q1, q2⟩ := q'
      dsimp only at q1 q2
      simp only [Option.bind_some]
      rw [q1, q2]
  have back : t.relaid (es.map (·.1)) (SetTable.grown es.size) = some (t', #[0, 1, 2, 3, 4]) := by
    have hm : SetTable.sizeAbove (SetTable.grown es.size) - 1 = 31 := by rw [n5]; decide +kernel
    simp only [SetTable.relaid, hm, hk]
    exact laid31
  have all5 : (#[0, 1, 2, 3, 4] : Array Nat).filterMap (es[·]?) = es := by
    obtain ⟨l⟩ := es
    match l, n5 with
    | [a, b, c, d, e], _ => rfl
  have fit : t'.fits es.size = true := by
    show (hs.toArray.size == es.size && decide (hs.toArray.size + 0 ≤ 31)) = true
    rw [n5, List.size_toArray, h5]; rfl
  refine ⟨t', ?_, ⟨g.mem, rfl, rfl, g.plain, .inl rfl⟩, rfl⟩
  simp only [relayAll, back, all5, fit]
  rw [show coversAll #[0, 1, 2, 3, 4] es.size = true from by rw [n5]; decide +kernel]
  rfl
/-- the place of a new number, told as SG5 -/
theorem SG.put {t : SetTable} {hs : List Nat} (g : SG t hs) {k : Nat} (hk : k < 7) (hn : k ∉ hs) {es : Array (Int × Value)} (key : es.toList.map (·.1) = hs.map Int.ofNat) (x : Value) :
    ∃ es' hs' t', layNew t es (k : Int) x = (es', t', false, false) ∧ SG5 t' hs' ∧ t'.led = t.led ∧ es'.toList.map (·.1) = hs'.map Int.ofNat ∧ (∀ e ∈ es'.toList, e ∈ es.toList ∨ e = ((k : Int), x)) := by
  obtain ⟨hs', t', h1, h2, h3, h4, h5, h6, h7, h8, _, _, h9⟩ := g.lay hk hn key x
  refine ⟨_, hs', t', h1, ⟨h2, h4, h5, h6, ?_⟩, h8, h9, fun e he => ?_⟩
  · rw [h7]
    exact g.mask.imp id fun z => ⟨z.1, by omega⟩
  · rw [SetTable.toList_insertAt] at he
    rcases List.mem_append.mp he with z | z
    · exact .inl (List.mem_of_mem_take z)
    · exact (List.mem_cons.mp z).elim .inr fun y => .inl (List.mem_of_mem_drop y)
end L2

namespace L2
open PySem PySem.Spec PyProof.Rows
/-! ### the set in the heap -/
def Nums (es : Array (Int × Value)) : Prop := ∀ e ∈ es.toList, ∃ (j : Nat) (u : Tok), j < 7 ∧ e = ((j : Int), Value.int (j : Int) u)
abbrev setObj (es : Array (Int × Value)) (ep : Nat) (t : SetTable) : Obj := { cls := .type "set", dict := none, data := .set es ep t, slots := #[] }
/-- the set at a holds the numbers hs, in its table's order -/
def SetAt (w : World) (h : Heap) (a : Addr) (hs : List Nat) : Prop := ∃ es ep t, h.get? a = some (setObj es ep t) ∧ Nums es ∧ es.toList.map (·.1) = hs.map Int.ofNat ∧ SG t hs ∧ (w.params.followText "set-order" = true ∨ t.led = true)
theorem SetAt.stay {w : World} {h h' : Heap} {a : Addr} {hs : List Nat} (S : SetAt w h a hs) (k : ∀ o, h.get? a = some o → h'.get? a = some o) : SetAt w h' a hs := by
  obtain ⟨es, ep, t, o, r⟩ := S
  exact ⟨es, ep, t, k _ o, r⟩
theorem hash7 {prog : Program} {w : World} {k : Nat} (hk : k < 7) : (intKind prog w).hash (k : Int) = (k : Int) :=
  (show ∀ k ∈ List.range 7, hashInt (k : Int) = (k : Int) by decide +kernel) k (List.mem_range.mpr hk)
theorem Nums.elems {prog : Program} {w : World} {es : Array (Int × Value)} (N : Nums es) : ElemsOf (intKind prog w) es.toList := by
  intro e he
  obtain ⟨j, u, hj, rfl⟩ := N e he
  exact ⟨⟨j, intKind_is prog w j u, (hash7 hj).symm⟩, rfl⟩
/-- a number that the scan does not meet is not among them -/
theorem Nums.new {prog : Program} {w : World} {es : Array (Int × Value)} {hs : List Nat} {k : Nat} (N : Nums es) (key : es.toList.map (·.1) = hs.map Int.ofNat) (no : ∀ e ∈ es.toList, (intKind prog w).is (k : Int) e.2 = false) : k ∉ hs := by
  intro hm
  have : Int.ofNat k ∈ es.toList.map (·.1) := key ▸ List.mem_map_of_mem hm
  obtain ⟨e, he, ek⟩ := List.mem_map.mp this
  obtain ⟨j, u, _, rfl⟩ := N e he
  have ej : (j : Int) = (k : Int) := ek
  have q := no _ he
  rw [← ej, intKind_is prog w j u] at q
  cases q
section
variable {prog : Program} {w : World} {A : Around} {E : Value → Shared → Prop} {s : Shared}
/-- new elements and a new table are stored -/
theorem put_set {a : Addr} {es es' : Array (Int × Value)} {ep : Nat} {t t' : SetTable} {Q : Unit → Shared → Prop} (o : s.heap.get? a = some (setObj es ep t)) (z : es'.size ≤ 7)
    (h : ∀ h', Heap.SameBut a s.heap h' → h'.get? a = some (setObj es' (ep + 1) t') → Q () { s with heap := h' }) : wpAny (model prog w) A (storeSet a es' t') Q E s :=
  wpAny_storeSet_of o rfl (h _ (Heap.SameBut.update ..) (Heap.get?_update_self (Obj.putSet es' t') o rfl)) (Nat.le_trans z (by decide))
theorem add_num {a : Addr} {hs : List Nat} {k : Nat} {u : Tok} {Q : Bool → Shared → Prop} (hk : k < 7) (S : SetAt w s.heap a hs)
    (h : ∀ h' hs' b, Heap.SameBut a s.heap h' → SetAt w h' a hs' → Q b { s with heap := h' }) : wpAny (model prog w) A (setAddHashed a (.int (k : Int) u) (k : Int)) Q E s := by
  have S0 := S
  obtain ⟨es, ep, t, o, N, key, G, L⟩ := S
  have n7 : es.size ≤ 7 := by
    have e1 := congrArg List.length key
    simp only [List.length_map, Array.length_toList] at e1
    rw [e1]; exact subs_len hs G.mem
  have nh : es.size = hs.length := by simpa using congrArg List.length key
  have fit : t.fits es.size = true := nh ▸ G.fits
  have scan : byScan (.int (k : Int) u) es = true := byScan_of (knd := intKind prog w) rfl (Nat.lt_of_le_of_lt n7 (by decide)) N.elems
  have hk' : (intKind prog w).hash (k : Int) = (k : Int) := hash7 hk
  unfold setAddHashed setAddHashedIn
  refine wpAny_holding (wpAny_bind (wpAny_setState_of (es := es) (ep := ep) (t := t) o rfl fit ?_))
  dsimp only
  rw [if_pos scan]
  unfold setAddByScan
  have looked : ∀ Q' : ScanMet → Shared → Prop, Q' (match es.toList.findIdx? (fun e => (intKind prog w).is (k : Int) e.2) with | some j => .found (0 + j) | none => .absent) s → wpAny (model prog w) A (setScan a (.int (k : Int) u) (k : Int) true es) Q' E s := fun Q' q => by
    have this := wpAny_setScan_of (knd := intKind prog w) (A := A) (E := E) (adding := true) (intKind_is prog w k u) o rfl fit N.elems q
    rwa [hk'] at this
  refine wpAny_bind (wpAny_bind (wpAny_rule (wpAny_bind (looked _ ?_))))
  cases met : es.toList.findIdx? (fun e => (intKind prog w).is (k : Int) e.2) with
  | some j => exact wpAny_pure (wpAny_pure (h s.heap hs false (Heap.SameBut.refl ..) S0))
  | none =>
    have fresh := N.new key (List.findIdx?_eq_none_iff.mp met)
    obtain ⟨es', hs', t', lay, G5, led, key', from_⟩ := G.put hk fresh key (.int (k : Int) u)
    have N' : Nums es' := fun e he => (from_ e he).elim (N e) fun z => ⟨k, u, hk, z⟩
    have n7' : es'.size ≤ 7 := by
      have e1 := congrArg List.length key'
      simp only [List.length_map, Array.length_toList] at e1
      rw [e1]; exact subs_len hs' G5.mem
    have L' : w.params.followText "set-order" = true ∨ t'.led = true := L.imp id fun z => led.trans z
    simp only [lay]
    refine wpAny_bind (wpAny_pure ?_)
    simp only [G5.plain, if_true]
    refine wpAny_bind ?_
    rw [hashByValue_scannable 8 (show (Value.int (k : Int) u).scannable = true from rfl)]
    refine wpAny_pure ?_
    simp only [plainKind, if_true]
    refine wpAny_bind (put_set o n7' fun h1 sb1 o1 => ?_)
    rcases G5.cases with ⟨tf, G'⟩ | ⟨tf, _, five⟩
    · simp only [tf, Bool.and_false, Bool.false_eq_true, if_false]
      exact wpAny_pure (wpAny_pure (h h1 hs' true sb1 ⟨es', _, t', o1, N', key', G', L'⟩))
    · obtain ⟨t2, rel, G', led2⟩ := G5.relay five key'
      simp only [tf, Bool.not_false, Bool.and_self, if_true, rel]
      refine wpAny_bind (wpAny_pure (wpAny_bind (put_set (s := { s with heap := h1 }) o1 n7' fun h2 sb2 o2 => ?_)))
      exact wpAny_pure (wpAny_pure (h h2 hs' true (sb1.trans sb2) ⟨es', _, t2, o2, N', key', G', L'.imp id fun z => led2.trans z⟩))
end
end L2

namespace L2
open PySem PySem.Spec PyProof.Rows
/-! ### set(xs) of numbers 0 to 6 -/
abbrev emptySet (w : World) : Obj := setObj #[] 0 (.fresh 0 0 (!w.params.followText "set-order"))
theorem SetAt.empty {w : World} {h : Heap} {a : Addr} (o : h.get? a = some (emptySet w)) : SetAt w h a [] := by
  refine ⟨#[], 0, _, o, fun e he => absurd he (by simp), rfl, SG.fresh _, ?_⟩
  cases w.params.followText "set-order"
  · exact .inr rfl
  · exact .inl rfl
section
variable {prog : Program} {w : World} {A : Around} {R : Result → Shared → Prop} {s : Shared}
/-- the loop that fills it, told by how many items are still to come -/
theorem fill_set {I S : Addr} {fp wr : List Addr} {G : Array GenState → Array GenState → Prop} {n : Nat} {P : Nat → Value → Prop} {St : Nat → Shared → Prop} (W : WalksS prog w A.in1 I fp wr G n P St) (out : S ∉ fp)
    (num : ∀ i v, P i v → ∃ (k : Nat) (u : Tok), k < 7 ∧ v = .int (k : Int) u) :
    ∀ (left : Nat) (s : Shared), left ≤ n → St (n - left) s → (∃ hs, SetAt w s.heap S hs) → (∀ s', Moved (S :: wr) G s s' → (∃ hs, SetAt w s'.heap S hs) → R (.ok (.ret .none)) s') →
      codeAny (model prog w) A (.builtin "set.update.loop" ⟨[.ref S, .ref I], []⟩) R s
  | 0, s, _, st, ⟨hs, T⟩, k => codeAny_builtin PyProof.Rows.F.entry_set_update_loop (by
      rw [show A.under (.builtin "set.update.loop" ⟨[.ref S, .ref I], []⟩) = A.in1 from Around.under_plainId PyProof.Rows.F.plain_set_update_loop _]
      exact wpAny_bind (m := pyNext (.ref I)) (W.done s _ _ st fun s' mv => wpAny_pure (k s' (mv.mono fun _ => List.mem_cons_of_mem _) ⟨hs, T.stay fun o e => mv.heap S o (fun z => out (W.sub S z)) e⟩)))
  | left + 1, s, hl, st, ⟨hs, T⟩, k => codeAny_builtin PyProof.Rows.F.entry_set_update_loop (by
      rw [show A.under (.builtin "set.update.loop" ⟨[.ref S, .ref I], []⟩) = A.in1 from Around.under_plainId PyProof.Rows.F.plain_set_update_loop _]
      refine wpAny_bind (m := pyNext (.ref I)) (W.item (n - (left + 1)) s _ _ (by omega) st fun v s1 pv st1 mv => ?_)
      obtain ⟨kk, u, hk, rfl⟩ := num _ v pv
      have T1 : SetAt w s1.heap S hs := T.stay fun o e => mv.heap S o (fun z => out (W.sub S z)) e
      refine wpAny_bind (m := holding [Value.int (kk : Int) u] (setAdd S (.int (kk : Int) u))) (wpAny_holding ?_)
      unfold setAdd
      refine wpAny_holding (wpAny_bind ((intKind prog w).pyHash (intKind_is prog w kk u) ?_))
      rw [hash7 hk]
      refine add_num (s := { s1 with toks := s1.toks + 1 }) hk T1 fun h2 hs2 _ sb T2 => wpAny_pure ⟨plainId_quiet PyProof.Rows.F.plain_set_update_loop _, ?_⟩
      have kept : ∀ b o, b ≠ S → s1.heap.get? b = some o → h2.get? b = some o := fun b o nb e => (sb.2 b nb).trans e
      have st2 : St (n - left) { s1 with heap := h2, toks := s1.toks + 1 } := by
        have := W.frame _ s1 h2 (s1.toks + 1) st1 (Nat.le_succ _) fun b hb o e => kept b o (fun z => out (z ▸ hb)) e
        rwa [show n - (left + 1) + 1 = n - left by omega] at this
      refine fill_set W out num left _ (by omega) st2 ⟨hs2, T2⟩ fun s' mv' T' => k s' ?_ T'
      exact Moved.trans W.gtrans ((mv.mono fun _ => List.mem_cons_of_mem _).then_heap (Nat.le_succ _) fun b o nb e => kept b o (fun z => nb (z ▸ List.mem_cons_self)) e) mv')
end
end L2

namespace L2
open PySem PySem.Spec PyProof.Rows
section
variable {prog : Program} {w : World} {A : Around} {E : Value → Shared → Prop}
/-- what set(xs) leaves: the set at S, all older things as they were -/
def Filled (w : World) (s : Shared) (S : Addr) (s' : Shared) : Prop := ∃ h' tk, s' = { s with heap := h', toks := tk } ∧ (∃ hs, SetAt w h' S hs) ∧ ∀ b o, b < S → s.heap.get? b = some o → h'.get? b = some o
/-- set.__init__ of a set that was just made, with a list -/
theorem init_set {s : Shared} {S l : Addr} {items : Array Value} {Q : Fin → Shared → Prop} (calm : A.handled = none) (o : s.heap.get? S = some (emptySet w)) (top : s.heap.objs.size = S + 1) (hl : s.heap.IsList l items) (ne : l < S)
    (num : ∀ (i : Nat) v, items[i]? = some v → ∃ (k : Nat) (u : Tok), k < 7 ∧ v = .int (k : Int) u) (h : ∀ s', Filled w s S s' → Q (.done (.ret .none)) s') :
    wpAny (model prog w) A (Builtin.«set.__init__» ⟨[.ref S, .ref l], []⟩) Q E s := by
  obtain ⟨ol, hol, cl, nl, dl⟩ := id hl
  obtain ⟨c0, d0, x0, s0⟩ := ol
  obtain rfl : c0 = .type "list" := cl
  obtain rfl : x0 = .seq items nl := dl
  have q1 := PySem.F.sub_list_set
  have q2 := PySem.F.sub_list_frozenset
  have walk : ∀ Q' : Value → Shared → Prop, (∀ s', Filled w s S s' → Q' .none s') → wpAny (model prog w) A (pyIter (.ref l)) (fun it s1 => wpAny (model prog w) A (runValue (.builtin "set.update.loop" ⟨[.ref S, it], []⟩)) Q' E s1) E s := by
    intro Q' k
    refine wpAny_pyIter_list hl (wpAny_runValue ?_)
    have SI : S < s.heap.objs.size := top ▸ Nat.lt_succ_self S
    have nI : l ≠ s.heap.objs.size := Nat.ne_of_lt (Nat.lt_trans ne SI)
    have outS : S ∉ [s.heap.objs.size, l] := fun z => by
      rcases List.mem_cons.mp z with z | z
      · exact Nat.ne_of_lt SI z
      · exact Nat.ne_of_gt ne (List.mem_singleton.mp z)
    refine fill_set (n := items.size) ((Walks.list (show A.in1.handled = none by simp [calm]) s.heap.objs.size l nI items).toS) outS num items.size _ (Nat.le_refl _) ?_ ⟨[], SetAt.empty (Heap.get?_push_of_some _ o)⟩ fun s' mv T => ?_
    · rw [Nat.sub_self]
      exact ⟨⟨_, Heap.get?_push_size _ rfl, rfl, rfl⟩, hl.push _⟩
    · obtain ⟨h', g', d', tk', os'⟩ := s'
      obtain rfl : g' = s.gens := mv.gens
      obtain rfl : d' = s.drawn := mv.drawn
      obtain rfl : os' = s.os := mv.os
      refine k _ ⟨h', tk', rfl, T, fun b ob hb e => mv.heap b ob (fun z => ?_) (Heap.get?_push_of_some _ e)⟩
      rcases List.mem_cons.mp z with z | z
      · exact Nat.ne_of_lt hb z
      · exact Nat.ne_of_lt (Nat.lt_trans hb SI) (List.mem_singleton.mp z)
  unfold Builtin.«set.__init__» noKeywords Builtin.Frozenset.updateFrom
  generalize hP : pyIter = PI at walk
  repeat (any_goals (first | assumption | wp_step))
  exact wpAny_mono (walk (fun r s' => Filled w s S s') fun s' z => z) (fun it s1 q => wpAny_bind (wpAny_mono q (fun _ s2 z => wpAny_pure (wpAny_pure (h s2 z))) fun _ _ e => e)) fun _ _ e => e
/-- set.__new__ makes an empty one, led where the order is not the text's -/
theorem new_set {s : Shared} {x : Value} {Q : Value → Shared → Prop} (h : Q (.ref s.heap.objs.size) { s with heap := s.heap.push (emptySet w) }) :
    codeAny (model prog w) A (.call (.builtin "set.__new__") ⟨[.type "set", x], []⟩) (wants Q E) s := by
  have q1 := sub_set_self
  refine codeAny_of_tree (wpAny_bind (m := checkBuiltinCall "set.__new__" ⟨[.type "set", x], []⟩) (wpAny_of_eq (PySem.F.newCall_set_1 x) (wpAny_pure ⟨plainId_quiet PySem.F.plain_set_new _, codeAny_builtin PySem.F.entry_set_new ?_⟩)))
  rw [show A.under (.builtin "set.__new__" ⟨[.type "set", x], []⟩) = A.in1 from Around.under_plainId PySem.F.plain_set_new _]
  unfold Builtin.«set.__new__» Builtin.Frozenset.newClass
  repeat (any_goals (first | assumption | exact wpAny_askSetting (wpAny_pure (wpAny_bind (wpAny_alloc (wpAny_pure (wpAny_pure h))))) | wp_step))
end
end L2

namespace L2
open PySem PySem.Spec PyProof.Rows
section
variable {prog : Program} {w : World} {A : Around} {E : Value → Shared → Prop}
theorem call_set7 {s : Shared} {l : Addr} {items : Array Value} {Q : Value → Shared → Prop} (calm : A.handled = none) (hl : s.heap.IsList l items) (num : ∀ (i : Nat) v, items[i]? = some v → ∃ (k : Nat) (u : Tok), k < 7 ∧ v = .int (k : Int) u)
    (h : ∀ s', Filled w { s with heap := s.heap.push (emptySet w) } s.heap.objs.size s' → Q (.ref s.heap.objs.size) s') : wpAny (model prog w) A (call (.type "set") [.ref l]) Q E s := by
  obtain ⟨cm, tm, g1⟩ := PySem.F.called_set.mro
  have g2 := PySem.F.called_set.made
  have g3 := PySem.F.called_set.sub
  have g4 := PySem.F.called_set.notType
  have g5 := PySem.F.called_set.canCreate
  have g6 := PySem.F.typeCall_set_1 (.ref l)
  have g7 := PySem.F.called_set.init.lookup
  have g8 := PySem.F.called_set.init.bind (.ref s.heap.objs.size)
  have lS : l < s.heap.objs.size := by obtain ⟨_, e, _⟩ := hl; exact Heap.lt_size e
  -- the two codes inside, each told by what it leaves
  have made : ∀ B : Around, codeAny (model prog w) B (.call (.builtin "set.__new__") ⟨[.type "set", .ref l], []⟩) (wants (fun v s1 => v = .ref s.heap.objs.size ∧ s1 = { s with heap := s.heap.push (emptySet w) }) E) s := fun B => new_set ⟨rfl, rfl⟩
  have o1 : (s.heap.push (emptySet w)).get? s.heap.objs.size = some (emptySet w) := Heap.get?_push_size _ rfl
  have ty : Shared.TypeIs { s with heap := s.heap.push (emptySet w) } (.ref s.heap.objs.size) "set" := ⟨_, o1, rfl⟩
  have filled : ∀ B : Around, B.handled = none → codeAny (model prog w) B (.call (.builtin "set.__init__") ⟨[.ref s.heap.objs.size, .ref l], []⟩) (wants (fun v s' => v = .none ∧ Filled w { s with heap := s.heap.push (emptySet w) } s.heap.objs.size s') E) { s with heap := s.heap.push (emptySet w) } := fun B hB =>
    codeAny_call_builtin PySem.F.called_set.init.plain PySem.F.entry_set_init (check_set_init_1 ty (init_set (s := { s with heap := s.heap.push (emptySet w) }) (by simp [hB]) o1 (Heap.size_push ..) (hl.push _) lS num fun s' z => ⟨rfl, z⟩))
  refine wpAny_call (codeAny_of_tree (wpAny_pure ⟨Code.quiet_builtin _ (by decide +kernel), codeAny_builtin PySem.F.entry_type_call ?_⟩))
  rw [Around.under_plain (weight_type_call_type "set" [.ref l] []) rfl]
  repeat (any_goals (first | assumption | wp_step))
  refine codeAny_mono (made _) fun r s1 hr => ?_
  match r, hr with
  | .ok (.ret v), ⟨e1, e2⟩ =>
    subst e1 e2
    repeat (any_goals (first | assumption | wp_step))
    refine codeAny_mono (filled _ (by simp [calm])) fun r2 s2 hr2 => ?_
    match r2, hr2 with
    | .ok (.ret v2), ⟨e3, z⟩ =>
      subst e3
      have q := h s2 z
      repeat (any_goals (first | assumption | wp_step))
    | .error e, z => exact z
  | .error e, z => exact z
end
end L2

namespace L2
open PySem PySem.Spec PyProof.Rows
/-! ### the order in which a set is walked -/
/-- whatever is picked: as many as there are, and each is one of them -/
theorem pick_all {α : Type} (f : Nat → Nat) : ∀ (fuel k : Nat) (left : List α) (out : Array α), left.length = fuel → (pickOrder.go f fuel k left out).size = out.size + fuel ∧ ∀ x ∈ (pickOrder.go f fuel k left out).toList, x ∈ out.toList ∨ x ∈ left
  | 0, k, left, out, _ => ⟨rfl, fun x hx => .inl hx⟩
  | fuel + 1, k, left, out, hl => by
    have pos : f k % left.length < left.length := Nat.mod_lt _ (by omega)
    obtain ⟨y, hy⟩ : ∃ y, left[f k % left.length]? = some y := ⟨_, List.getElem?_eq_getElem pos⟩
    have step : pickOrder.go f (fuel + 1) k left out = pickOrder.go f fuel (k + 1) (left.eraseIdx (f k % left.length)) (out.push y) := by
      show (match left[f k % left.length]? with | some x => _ | none => _) = _
      rw [hy]
    obtain ⟨h1, h2⟩ := pick_all f fuel (k + 1) (left.eraseIdx (f k % left.length)) (out.push y) (by rw [List.length_eraseIdx_of_lt pos]; omega)
    rw [step]
    refine ⟨by rw [h1, Array.size_push]; omega, fun x hx => ?_⟩
    rcases h2 x hx with z | z
    · rw [Array.toList_push] at z
      exact (List.mem_append.mp z).imp id fun q => by rw [List.mem_singleton.mp q]; exact List.mem_of_getElem? hy
    · exact .inr (List.mem_of_mem_eraseIdx z)
/-- the mark of a walk behind i numbers -/
def mark (w : World) (hs : List Nat) (i : Nat) : Nat := if w.params.followText "set-order" = true then 0 else if i = 0 then 0 else hs.getD (i - 1) 0 + 1
section
variable {prog : Program} {w : World} {A : Around} {E : Value → Shared → Prop} {s : Shared} {S : Addr} {es : Array (Int × Value)} {ep : Nat} {t : SetTable} {hs : List Nat}
structure SetIs (w : World) (h : Heap) (S : Addr) (es : Array (Int × Value)) (ep : Nat) (t : SetTable) (hs : List Nat) : Prop where
  obj : h.get? S = some (setObj es ep t)
  num : Nums es
  key : es.toList.map (·.1) = hs.map Int.ofNat
  tab : SG t hs
  led : w.params.followText "set-order" = true ∨ t.led = true
theorem SetIs.size {h : Heap} (X : SetIs w h S es ep t hs) : es.size = hs.length := by simpa using congrArg List.length X.key
theorem SetIs.fit {h : Heap} (X : SetIs w h S es ep t hs) : t.fits es.size = true := X.size ▸ X.tab.fits
theorem SetIs.stay {h h' : Heap} (X : SetIs w h S es ep t hs) (k : ∀ o, h.get? S = some o → h'.get? S = some o) : SetIs w h' S es ep t hs := ⟨k _ X.obj, X.num, X.key, X.tab, X.led⟩
/-- one more number, or the end -/
theorem next_of (X : SetIs w s.heap S es ep t hs) (i : Nat) (hi : i ≤ hs.length) {Q : Option (Value × Nat) → Shared → Prop}
    (more : i < hs.length → ∀ (k : Nat) (u : Tok), k < 7 → Q (some (.int (k : Int) u, mark w hs (i + 1))) s) (last : i = hs.length → Q none s) : wpAny (model prog w) A (setNext S (mark w hs i) i ep) Q E s := by
  have n := X.size
  unfold setNext
  refine wpAny_bind (wpAny_setState_of X.obj rfl X.fit ?_)
  unfold setsByText
  refine wpAny_bind (wpAny_bind (wpAny_askSetting (wpAny_pure ?_)))
  by_cases bt : w.params.followText "set-order" = true
  · have m0 : ∀ j, mark w hs j = 0 := fun j => if_pos bt
    show wpAny _ _ (if w.params.followText "set-order" = true then _ else _) _ _ _
    rw [if_pos bt, if_neg (by simp)]
    obtain ⟨p1, p2⟩ := pick_all (w.params.setOrder S ep) es.size 0 es.toList #[] Array.length_toList
    have walk : ∀ Q' : Array (Int × Value) → Shared → Prop, Q' (pickOrder (w.params.setOrder S ep) es) s → wpAny (model prog w) A (setWalk S) Q' E s := fun Q' q => by
      unfold setWalk setsByText
      refine wpAny_bind (wpAny_setState_of X.obj rfl X.fit (wpAny_bind (wpAny_bind (wpAny_askSetting (wpAny_pure ?_)))))
      show wpAny _ _ (if w.params.followText "set-order" = true then _ else _) _ _ _
      rw [if_pos bt]
      exact wpAny_bind (wpAny_askSetting (wpAny_pure q))
    refine wpAny_bind (walk _ (wpAny_pure ?_))
    have sz : (pickOrder (w.params.setOrder S ep) es).size = hs.length := by
      have q : (pickOrder (w.params.setOrder S ep) es).size = (#[] : Array (Int × Value)).size + es.size := p1
      rw [q, ← n]; simp
    rw [m0]
    by_cases hl : i < hs.length
    · have at_ : (pickOrder (w.params.setOrder S ep) es)[i]? = some ((pickOrder (w.params.setOrder S ep) es)[i]'(by omega)) := Array.getElem?_eq_getElem _
      rw [at_]
      have mem := p2 ((pickOrder (w.params.setOrder S ep) es)[i]'(by omega)) (Array.getElem_mem_toList ..)
      obtain ⟨k, u, hk, e⟩ := X.num _ (mem.elim (fun z => absurd z (by simp)) id)
      show Q (some (_, 0)) s
      rw [e]
      have q := more hl k u hk
      rwa [m0] at q
    · rw [Array.getElem?_eq_none (by omega)]
      exact last (by omega)
  · have led : t.led = true := X.led.resolve_left bt
    have mi : ∀ j, mark w hs j = if j = 0 then 0 else hs.getD (j - 1) 0 + 1 := fun j => if_neg bt
    have low : SetTable.below t.place (mark w hs i) = i := by rw [mi, X.tab.place]; exact subs_walk hs X.tab.mem i (List.mem_range.mpr (by omega))
    show wpAny _ _ (if w.params.followText "set-order" = true then _ else _) _ _ _
    rw [if_neg bt]
    have nd : ¬ (!t.plain && decide (es.size > 1)) = true := by rw [X.tab.plain]; simp
    have ld : ¬ (!t.led && !es.isEmpty) = true := by rw [led]; simp
    refine wpAny_ite_split (fun z => absurd z nd) fun _ => ?_
    have passed : ∀ Q' : Unit → Shared → Prop, Q' () s → wpAny (model prog w) A (if (!t.led && !es.isEmpty) = true then unsupported "set:maker-not-led" else pure ()) Q' E s := fun Q' q => by rw [if_neg ld]; exact wpAny_pure q
    refine wpAny_bind (passed _ ?_)
    dsimp only
    rw [low]
    by_cases hl : i < hs.length
    · have e1 : es[i]? = some (es[i]'(by omega)) := Array.getElem?_eq_getElem _
      have e2 : t.place[i]? = some (hs[i]'hl) := by rw [X.tab.place]; simp [hl]
      obtain ⟨k, u, hk, e⟩ := X.num (es[i]'(by omega)) (Array.getElem_mem_toList ..)
      rw [e1, e2, e]
      refine wpAny_pure ?_
      have q := more hl k u hk
      rw [mi, if_neg (Nat.succ_ne_zero i), Nat.add_sub_cancel] at q
      have g : hs.getD i 0 = hs[i]'hl := by simp [List.getD, hl]
      rwa [g] at q
    · rw [Array.getElem?_eq_none (show es.size ≤ i by omega)]
      exact wpAny_pure (last (by omega))
end
end L2

namespace L2
open PySem PySem.Spec PyProof.Rows
/-! ### the iterator of a set -/
theorem si_owner : Manifest.owners.lookup (String.ofList "set_iterator".toList.reverse.reverse) = some Manifest.sig_set_iterator := by kernel_rfl
theorem si_next : Slot "set_iterator" "__next__" "set_iterator.__next__" := Slot.of (owner := "set_iterator") (n := "__next__") (typeLookup_type .. ▸ builtinLookup_eq_fast .. ▸ by kernel_rfl) (by decide +kernel) (by decide +kernel) (by decide +kernel) (by decide +kernel) (isSubtype_type .. ▸ by kernel_rfl)
theorem si_entry : entryFor table "set_iterator.__next__" = some Builtin.«set_iterator.__next__» := entryFor_of_tree (by kernel_rfl)
theorem si_iter : Slot "set_iterator" "__iter__" "set_iterator.__iter__" := Slot.of (owner := "set_iterator") (n := "__iter__") (typeLookup_type .. ▸ builtinLookup_eq_fast .. ▸ by kernel_rfl) (by decide +kernel) (by decide +kernel) (by decide +kernel) (by decide +kernel) (isSubtype_type .. ▸ by kernel_rfl)
theorem si_iter_entry : entryFor table "set_iterator.__iter__" = some Builtin.«dict_keyiterator.__iter__» := entryFor_alias (id' := "dict_keyiterator.__iter__") (by kernel_rfl) (by decide +kernel) (by decide +kernel) (by kernel_rfl)
theorem set_iter_entry : entryFor table "set.__iter__" = some Builtin.«frozenset.__iter__» := entryFor_alias (id' := "frozenset.__iter__") (by kernel_rfl) (by decide +kernel) (by decide +kernel) (by kernel_rfl)
theorem si_iter_args (a : Value) : argsOk "set_iterator.__iter__" ⟨[a], []⟩ := by
  unfold argsOk
  rw [signature?_of (id := "set_iterator.__iter__") (n := "__iter__".toList.reverse) (o := "set_iterator".toList.reverse) (by kernel_rfl) si_owner]
  kernel_rfl
abbrev itObj (w : World) (hs : List Nat) (S : Addr) (n ep i : Nat) : Obj := { cls := .type "set_iterator", data := .fields #[rawInt (mark w hs i), rawInt i, .ref S, rawInt n, rawInt ep] }
section
variable {prog : Program} {w : World} {A : Around} {E : Value → Shared → Prop} {s : Shared}
/-- a StopIteration is made and raised -/
theorem stops {Q : PySem.Fin → Shared → Prop} {E' : Value → Shared → Prop} (calm : A.handled = none) (h : ∀ h' e, (∀ b o, s.heap.get? b = some o → h'.get? b = some o) → Shared.TypeIs { s with heap := h' } e "StopIteration" → E' e { s with heap := h' }) :
    wpAny (model prog w) A (do let e ← newExc (.type "StopIteration") []; raiseNew e) Q E' s := by
  simp only [newExc, newTuple, raiseNew]
  repeat (any_goals (first | assumption | wp_step))
  exact h _ _ (fun b o e => Heap.get?_push_of_some _ (Heap.get?_push_of_some _ e)) ⟨_, Heap.get?_push_size _ rfl, rfl⟩
theorem si_args (a : Value) : argsOk "set_iterator.__next__" ⟨[a], []⟩ := by
  unfold argsOk
  rw [signature?_of (id := "set_iterator.__next__") (n := "__next__".toList.reverse) (o := "set_iterator".toList.reverse) (by kernel_rfl) si_owner]
  kernel_rfl
/-- next(it), by what its method does -/
theorem next_by {I : Addr} {Q : Option Value → Shared → Prop} (ty : s.TypeIs (.ref I) "set_iterator")
    (h : wpAny (model prog w) A.in1 (Builtin.«set_iterator.__next__» ⟨[.ref I], []⟩) (fun f s' => ∃ v, f = .done (.ret v) ∧ Q (some v) s') (fun e s' => s'.TypeIs e "StopIteration" ∧ Q none s') s) : wpAny (model prog w) A (pyNext (.ref I)) Q E s := by
  unfold pyNext
  refine wpAny_bind (wpAny_attempt (wpAny_callSpecial?_slot (name := Str.ofString "__next__") ty si_next (wpAny_call_entry si_next ty si_entry ?_ (si_args _))))
  refine wpAny_mono h (fun f s' z => ?_) fun e s' z => ?_
  · obtain ⟨v, e, q⟩ := z
    exact ⟨v, e, wpAny_pure q⟩
  · exact wpAny_bind (wpAny_isInstance (b := true) z.1 isSubtype_stop (wpAny_pure z.2))
/-- the walk: the set and its iterator -/
structure ItAt (w : World) (I S : Addr) (es : Array (Int × Value)) (ep : Nat) (t : SetTable) (hs : List Nat) (i : Nat) (h : Heap) : Prop where
  le : i ≤ hs.length
  it : h.get? I = some (itObj w hs S hs.length ep i)
  set : SetIs w h S es ep t hs
theorem set_walk {I S : Addr} {es : Array (Int × Value)} {ep : Nat} {t : SetTable} {hs : List Nat} (calm : A.handled = none) (ne : S ≠ I) :
    Walks prog w A I [I, S] [I] hs.length (fun _ v => ∃ (k : Nat) (u : Tok), k < 7 ∧ v = .int (k : Int) u) (ItAt w I S es ep t hs) where
  sub := fun b hb => by simp at hb; simp [hb]
  frame := fun i h h' x k => ⟨x.le, k I (by simp) _ x.it, x.set.stay fun o e => k S (by simp) o e⟩
  item := fun i s Q E' hi x hQ => by
    refine next_by ⟨_, x.it, rfl⟩ ?_
    have n := x.set.size
    have o1 := x.it
    have go : ∀ Q' : Option (Value × Nat) → Shared → Prop, (∀ (k : Nat) (u : Tok), k < 7 → Q' (some (.int (k : Int) u, mark w hs (i + 1))) s) → wpAny (model prog w) A.in1 (setNext S (mark w hs i) i ep) Q' (fun e s' => s'.TypeIs e "StopIteration" ∧ Q none s') s := fun Q' q => next_of x.set i x.le (fun _ => q) (fun z => absurd z (by omega))
    have q0 := x.set.obj
    unfold Builtin.«set_iterator.__next__»
    generalize hN : setNext = SN at go ⊢
    repeat (any_goals (first | assumption | (with_reducible refine wpAny_setEntries_of x.set.obj rfl x.set.fit ?_) | wp_step))
    simp only [Int.toNat_natCast]
    refine go _ fun k u hk => ?_
    have o2 := Heap.get?_update_self (Obj.mapFields (·.setIfInBounds 0 (rawInt (mark w hs (i + 1))))) o1 rfl
    have o3 := Heap.get?_update_self (Obj.mapFields (·.setIfInBounds 1 (rawInt ((i : Int) + 1)))) o2 rfl
    refine wpAny_bind (wpAny_setField o1 rfl (by simp) (wpAny_bind (wpAny_setField (s := { s with heap := s.heap.update I (Obj.mapFields (·.setIfInBounds 0 (rawInt (mark w hs (i + 1))))) }) o2 rfl (by simp) (wpAny_pure ⟨_, rfl, ?_⟩))))
    have apart : ∀ b o, b ≠ I → s.heap.get? b = some o → ((s.heap.update I (Obj.mapFields (·.setIfInBounds 0 (rawInt (mark w hs (i + 1)))))).update I (Obj.mapFields (·.setIfInBounds 1 (rawInt ((i : Int) + 1))))).get? b = some o := fun b o nb e =>
      (Heap.get?_update_other _ _ (Ne.symm nb)).trans ((Heap.get?_update_other _ _ (Ne.symm nb)).trans e)
    exact hQ _ _ s.toks ⟨k, u, hk, rfl⟩ ⟨hi, o3, x.set.stay fun o e => apart S o ne e⟩ fun b o nb e => apart b o (by simpa using nb) e
  done := fun s Q E' x hQ => by
    refine next_by ⟨_, x.it, rfl⟩ ?_
    have n := x.set.size
    have o1 := x.it
    have q0 := x.set.obj
    have go : ∀ Q' : Option (Value × Nat) → Shared → Prop, Q' none s → wpAny (model prog w) A.in1 (setNext S (mark w hs hs.length) hs.length ep) Q' (fun e s' => s'.TypeIs e "StopIteration" ∧ Q none s') s := fun Q' q => next_of x.set hs.length (Nat.le_refl _) (fun z => absurd z (Nat.lt_irrefl _)) fun _ => q
    unfold Builtin.«set_iterator.__next__»
    generalize hN : setNext = SN at go ⊢
    repeat (any_goals (first | assumption | (with_reducible refine wpAny_setEntries_of x.set.obj rfl x.set.fit ?_) | wp_step))
    simp only [Int.toNat_natCast]
    refine go _ (wpAny_bind (wpAny_setField o1 rfl (by simp) ?_))
    refine stops (s := { s with heap := s.heap.update I (Obj.mapFields (·.setIfInBounds 2 Value.none)) }) (by simp [calm]) fun h' e k ty => ⟨ty, ?_⟩
    exact hQ h' s.toks fun b o nb eo => k b o ((Heap.get?_update_other _ _ (Ne.symm (by simpa using nb))).trans eo)
  self := fun i s Q E' x hQ => wpAny_pyIter_slot ⟨_, x.it, rfl⟩ si_iter (wpAny_call_entry si_iter ⟨_, x.it, rfl⟩ si_iter_entry (wpAny_pure ⟨_, rfl, "set_iterator", _, ⟨_, x.it, rfl⟩, si_next.lookup, hQ⟩) (si_iter_args _))
/-- iter(a set) -/
theorem iter_set {S : Addr} {es : Array (Int × Value)} {ep : Nat} {t : SetTable} {hs : List Nat} {Q : Value → Shared → Prop} (X : SetIs w s.heap S es ep t hs) (h : Q (.ref s.heap.objs.size) { s with heap := s.heap.push (itObj w hs S hs.length ep 0) }) :
    wpAny (model prog w) A (pyIter (.ref S)) Q E s := by
  have ty : s.TypeIs (.ref S) "set" := ⟨_, X.obj, rfl⟩
  have m0 : mark w hs 0 = 0 := by unfold mark; split <;> rfl
  refine wpAny_pyIter_slot ty PySem.F.slot_set_iter (wpAny_call_entry PySem.F.slot_set_iter ty set_iter_entry ?_ (PySem.F.args_set_iter_1 _))
  unfold Builtin.«frozenset.__iter__»
  have q0 := X.obj
  repeat (any_goals (first | assumption | (with_reducible refine wpAny_setState_of X.obj rfl X.fit ?_) | wp_step))
  have dr : (!w.params.followText "set-order" && (!t.plain && decide (es.size > 1))) = false := by rw [X.tab.plain]; simp
  refine wpAny_askSetting (wpAny_pure (wpAny_pure ?_))
  dsimp only
  refine wpAny_ite_split (fun z => absurd (dr.symm.trans z) (by decide)) fun _ => ?_
  refine wpAny_bind (wpAny_pure (wpAny_bind (wpAny_setEpoch_of X.obj rfl X.fit ?_)))
  unfold newFields
  refine wpAny_bind (wpAny_newObj_type (wpAny_pure ⟨_, rfl, "set_iterator", _, ⟨_, Heap.get?_push_size _ rfl, rfl⟩, si_next.lookup, ?_⟩))
  rw [X.size]
  have e : (itObj w hs S hs.length ep 0) = { cls := .type "set_iterator", data := .fields #[rawInt 0, rawInt 0, .ref S, rawInt hs.length, rawInt ep] } := by unfold itObj; rw [m0]; rfl
  rw [e] at h
  exact h
end
end L2

namespace L2
open PySem PySem.Spec PyProof.Rows
section
variable {prog : Program} {w : World} {A : Around} {E : Value → Shared → Prop} {s : Shared}
/-- len of a set does not count for a list's room -/
theorem hint_set {S : Addr} {o : Obj} {Q : Bool → Shared → Prop} (ho : s.heap.get? S = some o) (hc : o.cls = .type "set") (h : Q false s) : wpAny (model prog w) A (Builtin.List.listLengthHint (.ref S)) Q E s := by
  have ty : s.TypeIs (.ref S) "set" := ⟨o, ho, hc⟩
  unfold Builtin.List.listLengthHint
  refine wpAny_bind (wpAny_specialOf ty PySem.F.slot_set_len.lookup ?_)
  have sp : splitId "set.__len__" = some ("set", "__len__") := by decide +kernel
  simp only [sp]
  refine wpAny_bind (wpAny_isInstance (b := true) ty sub_set_self ?_)
  refine wpAny_bind (wpAny_typeOf ty ?_)
  exact wpAny_pure h
/-- room is made in an empty list: it stays empty -/
theorem touch_nil {L : Addr} {n : Nat} {Q : Unit → Shared → Prop} (o : s.heap.get? L = some { cls := .type "list", data := .seq #[] n })
    (h : ∀ h' n', Heap.SameBut L s.heap h' → h'.get? L = some { cls := .type "list", data := .seq #[] n' } → Q () { s with heap := h' }) : wpAny (model prog w) A (Builtin.List.listTouch (.ref L)) Q E s := by
  have o1 := Heap.get?_update_self (Obj.mapSeq (·.push Value.none)) o rfl
  have o2 := Heap.get?_update_self (Obj.mapSeq (·.pop)) o1 rfl
  exact wpAny_bind (m := updateSeq L (·.push .none)) (wpAny_updateSeq o rfl (wpAny_updateSeq (hz := by seq_fits) o1 rfl (h _ _ ((Heap.SameBut.update ..).trans (Heap.SameBut.update ..)) o2)))
/-- the numbers of a set, in a list that was not there -/
theorem collect_set {S : Addr} {es : Array (Int × Value)} {ep : Nat} {t : SetTable} {hs : List Nat} {Q : List Value → Shared → Prop} (calm : A.handled = none) (X : SetIs w s.heap S es ep t hs)
    (h : ∀ (h' : Heap) tk (acc : Array Value), (∀ b o, s.heap.get? b = some o → h'.get? b = some o) → s.heap.objs.size ≤ h'.objs.size → acc.size = hs.length → (∀ v ∈ acc.toList, ∃ (k : Nat) (u : Tok), k < 7 ∧ v = .int (k : Int) u) → Q acc.toList { s with heap := h', toks := tk }) :
    wpAny (model prog w) A (collect (.ref S)) Q E s := by
  have lS : S < s.heap.objs.size := Heap.lt_size X.obj
  have n7 := subs_len hs X.tab.mem
  -- the list that is filled stands at L, the iterator behind it
  let L := s.heap.objs.size
  let l0 : Obj := { cls := .type "list", data := .seq ([] : List Value).toArray }
  let h1 := s.heap.push l0
  have X1 : SetIs w h1 S es ep t hs := X.stay fun o e => Heap.get?_push_of_some _ e
  have z1 : h1.objs.size = L + 1 := Heap.size_push ..
  let h2 := h1.push (itObj w hs S hs.length ep 0)
  have oL : h2.get? L = some l0 := Heap.get?_push_of_some _ (Heap.get?_push_size _ rfl)
  have oI : h2.get? h1.objs.size = some (itObj w hs S hs.length ep 0) := Heap.get?_push_size _ rfl
  have SL : S ≠ L := Nat.ne_of_lt lS
  have SI : S ≠ h1.objs.size := by rw [z1]; exact Nat.ne_of_lt (Nat.lt_succ_of_lt lS)
  have LI : L ≠ h1.objs.size := by rw [z1]; exact Nat.ne_of_lt (Nat.lt_succ_self L)
  unfold collect
  refine wpAny_bind (wpAny_runValue (codeAny_builtin PySem.F.entry_proto_collect ?_))
  rw [show A.under (.builtin "proto.collect" ⟨[.ref S], []⟩) = A.in1 from Around.under_plainId PySem.F.plain_proto_collect _]
  refine wpAny_bind (m := newList []) (wpAny_newObj_type (wpAny_pure ⟨plainId_quiet PySem.F.plain_list_iadd _, codeAny_builtin PySem.F.entry_list_iadd ?_⟩))
  rw [show A.under (.builtin "list.__iadd__" ⟨[.ref L, .ref S], []⟩) = A.in1 from Around.under_plainId PySem.F.plain_list_iadd _]
  show wpAny _ A.in1 (Builtin.List.listExtendWith (.ref L) (.ref S) (.ref L)) _ _ { s with heap := h1 }
  unfold Builtin.List.listExtendWith
  refine wpAny_bind (wpAny_typeOf (s := { s with heap := h1 }) ⟨_, X1.obj, rfl⟩ ?_)
  have no : ¬ (Builtin.List.listSameRef (.ref L) (.ref S) || Value.type "set" == Value.type "list" || Value.type "set" == Value.type "tuple") = true := by
    have : (L == S) = false := by simpa using Ne.symm SL
    simp [Builtin.List.listSameRef, this]
  rw [if_neg no]
  refine wpAny_bind (iter_set (s := { s with heap := h1 }) X1 (wpAny_bind (wpAny_holding (hint_set (s := { s with heap := h2 }) (Heap.get?_push_of_some _ X1.obj) rfl ?_))))
  refine wpAny_ite_split (fun _ => ?_) (fun z => absurd rfl z)
  refine wpAny_bind (wpAny_rule (wpAny_bind (touch_nil (s := { s with heap := h2 }) oL fun h3 n3 sb3 o3 => wpAny_pure ⟨plainId_quiet PySem.F.plain_extend_loop _, ?_⟩)))
  have X3 : SetIs w h3 S es ep t hs := (X1.stay fun o e => Heap.get?_push_of_some _ e).stay fun o e => (sb3.2 S SL).trans e
  have I3 : h3.get? h1.objs.size = some (itObj w hs S hs.length ep 0) := (sb3.2 _ (Ne.symm LI)).trans oI
  have W := (set_walk (prog := prog) (w := w) (A := A.in1) (I := h1.objs.size) (S := S) (es := es) (ep := ep) (t := t) (hs := hs) (by simp [calm]) SI).toS
  have outL : L ∉ [h1.objs.size, S] := fun z => by
    rcases List.mem_cons.mp z with z | z
    · exact LI z
    · exact SL (List.mem_singleton.mp z).symm
  refine codeAny_extend_loopS W (Nat.le_trans n7 (by decide)) L outL (.ref L) hs.length 0 { s with heap := h3 } #[] n3 rfl (Nat.zero_le _) ⟨Nat.zero_le _, I3, X3⟩ o3 (ItemsOf.nil _) fun s' acc c' mv o' its => ?_
  refine wpAny_bind (m := load L) (wpAny_load o' (wpAny_pure ?_))
  obtain ⟨h', g', d', tk', os'⟩ := s'
  obtain rfl : g' = s.gens := mv.gens
  obtain rfl : d' = s.drawn := mv.drawn
  obtain rfl : os' = s.os := mv.os
  refine h h' tk' acc (fun b o e => ?_) ?_ its.1 fun v hv => ?_
  · have bL : b < L := Heap.lt_size e
    refine mv.heap b o (fun z => ?_) ((sb3.2 b (Nat.ne_of_lt bL)).trans (Heap.get?_push_of_some _ (Heap.get?_push_of_some _ e)))
    rcases List.mem_cons.mp z with z | z
    · exact Nat.ne_of_lt bL z
    · have := List.mem_singleton.mp z
      rw [this, z1] at bL
      exact Nat.lt_irrefl _ (Nat.lt_of_succ_lt bL)
  · exact Nat.le_of_lt (Heap.lt_size o')
  · obtain ⟨j, hj⟩ := List.mem_iff_getElem?.mp hv
    exact its.2 j v (by rw [← Array.getElem?_toList]; exact hj)
/-- what a list of such numbers is -/
theorem ints_of : ∀ {vs : List Value}, (∀ v ∈ vs, ∃ (k : Nat) (u : Tok), k < 7 ∧ v = .int (k : Int) u) → ∃ ns : List Int, IntsAre vs ns
  | [], _ => ⟨[], .nil⟩
  | v :: vs, h => by
    obtain ⟨k, u, _, rfl⟩ := h v List.mem_cons_self
    obtain ⟨ns, q⟩ := ints_of fun x hx => h x (List.mem_cons_of_mem _ hx)
    exact ⟨_, .cons _ u q⟩
/-- sorted(a set): a new list of its numbers -/
theorem sorted_set {S : Addr} {es : Array (Int × Value)} {ep : Nat} {t : SetTable} {hs : List Nat} {Q : Value → Shared → Prop} (calm : A.handled = none) (X : SetIs w s.heap S es ep t hs)
    (h : ∀ (h' : Heap) tk L (out : Array Value) (ns : List Int) n, (∀ b o, s.heap.get? b = some o → h'.get? b = some o) → s.heap.objs.size ≤ L → h'.get? L = some (seqObj "list" out n) → IntsAre out.toList ns → ns.length ≤ 7 → Q (.ref L) { s with heap := h', toks := tk }) :
    wpAny (model prog w) A (call (.builtin "sorted") [.ref S]) Q E s := by
  refine PySem.Calls.call_function_entry kind_sorted plain_sorted entry_sorted (args_sorted1 _) ?_
  unfold Builtin.«sorted»
  refine wpAny_bind (m := checkCount "sorted" 1 1 _) (wpAny_pure (wpAny_bind (collect_set (by simp [calm]) X fun h1 tk acc old big sz num => ?_)))
  have n7 := subs_len hs X.tab.mem
  obtain ⟨ns, IA⟩ := ints_of num
  have la : acc.toList.length ≤ 7 := by rw [Array.length_toList, sz]; exact n7
  refine wpAny_bind (wpAny_newList (hsz := Nat.le_trans la (by decide)) ?_)
  have oL : (h1.push { cls := .type "list", data := .seq acc.toList.toArray }).get? h1.objs.size = some (seqObj "list" acc.toList.toArray 0) := Heap.get?_push_size _ rfl
  refine wpAny_bind (wpAny_holding (wpAny_call_entry slot_list_sort ⟨_, oL, rfl⟩ entry_list_sort (list_sort_tree oL IA (Nat.lt_of_le_of_lt la (by decide)) fun out ns' a1 a2 _ => ⟨_, rfl, ?_⟩) (args_list_sort _)))
  obtain ⟨n, o'⟩ := sortedHeap_at (out := out) oL
  refine wpAny_pure ⟨_, rfl, h _ tk _ out ns' n (fun b o e => ?_) big o' a1 (by rw [a2.length_eq, ← IA.length]; exact la)⟩
  have e1 := old b o e
  have bl : b < h1.objs.size := Heap.lt_size e1
  rw [sortedHeap_old (Nat.ne_of_lt bl) (by rw [Heap.size_push]; exact Nat.lt_succ_of_lt bl)]
  exact Heap.get?_push_of_some _ e1
end
/-! ### the two rules -/
/-- a set of numbers 0 to 6, as a thing that is tracked -/
abbrev setX (w : World) (a : Addr) : HO := .ext fun h => ∃ hs, SetAt w h a hs
section
variable {X : Cx}
theorem setX_ok {prog : Program} {w : World} {H : Hp} {h : Heap} {a : Addr} {hs : List Nat} (S : SetAt w h a hs) : ObjOk prog w H h a (setX w a) := by
  refine ⟨⟨hs, S⟩, ?_, fun h1 h2 ⟨hs', S'⟩ k => ⟨hs', S'.stay k⟩⟩
  obtain ⟨_, _, _, o, _⟩ := S
  exact ⟨_, o⟩
theorem call_setR (hc : X.calm = true) : CallR X (.type "set") (fun xs H Q => ∃ (p : Addr) (ns : List Int), xs = [.ref p] ∧ SqL X.K H p (ns.map V.int) ∧ (∀ n ∈ ns, 0 ≤ n ∧ n < 7) ∧ ∀ l, H l = none → Q (.ref l) (upd H l (setX X.w l))) := by
  intro pins s σ H xs us Q I r h
  obtain ⟨p, ns, rfl, hp, sm, q⟩ := h
  obtain ⟨u, rfl, rx⟩ := vals1 r
  cases rx
  obtain ⟨its, rv, pl, hz⟩ := I.list hp
  refine call_set7 (I.ok.hd hc) pl.isList (fun i v hv => ?_) fun s' ⟨h', tk, e, ⟨hs, S⟩, old⟩ => ?_
  · have hv' : its[i]? = some v := by simpa using hv
    have hl : i < ns.length := by have := (List.getElem?_eq_some_iff.mp hv').1; have := rv.length; rw [List.length_map] at this; omega
    obtain ⟨v2, hv2, ru⟩ := rv.get (show (ns.map V.int)[i]? = some (.int ns[i]) by rw [List.getElem?_map, List.getElem?_eq_getElem hl]; rfl)
    obtain rfl : v = v2 := Option.some.inj (hv'.symm.trans hv2)
    obtain ⟨u, rfl⟩ := ru
    have b := sm _ (List.getElem_mem hl)
    exact ⟨ns[i].toNat, u, by omega, by rw [Int.toNat_of_nonneg b.1]⟩
  · subst e
    exact ⟨.ref s.heap.objs.size, _, I.laid (t' := tk) (fun b o eo => old b o (Heap.lt_size eo) (Heap.get?_push_of_some _ eo)) (Nat.le_refl _) (setX_ok S), rfl, q _ (I.hok.fresh (Nat.le_refl _))⟩
theorem call_sortedR (hc : X.calm = true) : CallR X (.builtin "sorted") (fun xs H Q => ∃ r : Addr, xs = [.ref r] ∧ H r = some (setX X.w r) ∧ ∀ l (ns : List Int), H l = none → ns.length ≤ 7 → Q (.ref l) (upd H l (.lst (ns.map V.int)))) := by
  intro pins s σ H xs us Q I r h
  obtain ⟨a, rfl, ha, q⟩ := h
  obtain ⟨u, rfl, rx⟩ := vals1 r
  cases rx
  obtain ⟨hs, es, ep, t, o, N, key, G, L⟩ := (I.hok a _ ha).1
  refine sorted_set (I.ok.hd hc) ⟨o, N, key, G, L⟩ fun h' tk l out ns n old big ol IA l7 => ?_
  exact ⟨.ref l, _, I.laid (t' := tk) old big (show ObjOk X.prog X.w _ _ _ (.lst (ns.map V.int)) from ⟨by rw [List.length_map]; exact Nat.le_trans l7 (by decide), out.toList, n, vals_ints IA, ol⟩), rfl, q l ns (I.hok.fresh big) l7⟩
end
end L2

namespace L2
open PySem PySem.Spec PyProof.Rows
/-! ### list(reversed(xs)) -/
theorem lri_no_len : typeLookup (.type "list_reverseiterator") "__len__" = pure none := typeLookup_type .. ▸ builtinLookup_eq_fast .. ▸ by kernel_rfl
theorem lri_hint : typeLookup (.type "list_reverseiterator") "__length_hint__" = pure (some (.builtin "list_reverseiterator.__length_hint__")) := typeLookup_type .. ▸ builtinLookup_eq_fast .. ▸ by kernel_rfl
theorem lri_self : isSubtype (.type "list_reverseiterator") (.type "list_reverseiterator") = pure true := isSubtype_type .. ▸ by kernel_rfl
theorem boot_reversed : bootBuiltins "reversed" = some (.type "reversed") := by decide +kernel
section
variable {prog : Program} {w : World} {A : Around} {E : Value → Shared → Prop} {s : Shared}
/-- a reversed list asks for no room -/
theorem hint_rev {I l : Addr} {i : Int} {Q : Bool → Shared → Prop} (x : s.heap.IsRevIter I l i) (h : Q false s) : wpAny (model prog w) A (Builtin.List.listLengthHint (.ref I)) Q E s := by
  have sp : splitId "list_reverseiterator.__length_hint__" = some ("list_reverseiterator", "__length_hint__") := by decide +kernel
  unfold Builtin.List.listLengthHint
  refine wpAny_bind (wpAny_specialOf x.typeIs lri_no_len ?_)
  refine wpAny_bind (m := specialOf (.ref I) (Str.ofString "__length_hint__")) (wpAny_specialOf x.typeIs lri_hint ?_)
  simp only [sp]
  refine wpAny_bind (wpAny_isInstance (b := true) x.typeIs lri_self ?_)
  exact wpAny_pure h
/-- what is left of a state behind the walk: all but the iterator stands, and the list -/
structure RevDone (s : Shared) (S I : Addr) (items : Array Value) (s' : Shared) : Prop where
  old : ∀ b o, b ≠ I → b ≠ S → s.heap.get? b = some o → s'.heap.get? b = some o
  eq : ∃ h tk, s' = { s with heap := h, toks := tk }
  lst : ∃ (acc : Array Value) (c : Nat), s'.heap.get? S = some { cls := .type "list", data := .seq acc c } ∧ acc.size = items.size ∧ ∀ j v, acc[j]? = some v → items[items.size - 1 - j]? = some v
theorem fill_rev {S I l : Addr} {c : Nat} {items : Array Value} {res : Value} {R : Result → Shared → Prop} (calm : A.handled = none) (o : s.heap.get? S = some { cls := .type "list", data := .seq #[] c }) (it : s.heap.IsRevIter I l ((items.size : Int) - 1)) (hl : s.heap.IsList l items)
    (n1 : S ≠ I) (n2 : S ≠ l) (n3 : l ≠ I) (z : items.size ≤ sizeLine) (h : ∀ s', RevDone s S I items s' → R (.ok (.ret res)) s') :
    wpAny (model prog w) A.in1 (Builtin.List.listExtendWith (.ref S) (.ref I) res) (fun fin s' => match fin with | .done f => R (.ok f) s' | .again c' => c'.quiet = true ∧ codeAny (model prog w) A c' R s') (fun e s' => R (.error e) s') s := by
  unfold Builtin.List.listExtendWith
  refine wpAny_bind (wpAny_typeOf it.typeIs ?_)
  have no : ¬ (Builtin.List.listSameRef (.ref S) (.ref I) || Value.type "list_reverseiterator" == Value.type "list" || Value.type "list_reverseiterator" == Value.type "tuple") = true := by
    have : (S == I) = false := by simpa using n1
    simp [Builtin.List.listSameRef, this]
  rw [if_neg no]
  refine wpAny_bind (wpAny_pyIter_revIter it (wpAny_bind (wpAny_holding (hint_rev it ?_))))
  refine wpAny_ite_split (fun z => absurd z (by decide +kernel)) (fun _ => ?_)
  have W := (Walks.listRev (prog := prog) (w := w) (A := A.in1) (by simp [calm]) I l n3 items).toS
  have out : S ∉ [I, l] := fun q => (List.mem_cons.mp q).elim n1 fun q => n2 (List.mem_singleton.mp q)
  have st : s.heap.IsRevIter I l ((items.size : Int) - 1 - ((0 : Nat) : Int)) := by simpa using it
  refine wpAny_pure ⟨plainId_quiet PySem.F.plain_extend_loop _, codeAny_extend_loopS W z S out res items.size 0 s #[] c rfl (Nat.zero_le _) ⟨Nat.zero_le _, st, hl⟩ o (ItemsOf.nil _) fun s' acc c' mv o' its => h s' ⟨fun b u b1 b2 e => mv.heap b u (fun q => ?_) e, ?_, acc, c', o', its.1, its.2⟩⟩
  · rcases List.mem_cons.mp q with q | q
    · exact b2 q
    · exact b1 (List.mem_singleton.mp q)
  · obtain ⟨h', g', d', tk', os'⟩ := s'
    obtain rfl : g' = s.gens := mv.gens
    obtain rfl : d' = s.drawn := mv.drawn
    obtain rfl : os' = s.os := mv.os
    exact ⟨h', tk', rfl⟩
theorem list_rev {I l : Addr} {items : Array Value} {Q : Value → Shared → Prop} (calm : A.handled = none) (it : s.heap.IsRevIter I l ((items.size : Int) - 1)) (hl : s.heap.IsList l items) (ne : l ≠ I) (z : items.size ≤ sizeLine)
    (h : ∀ s', RevDone s s.heap.objs.size I items s' → Q (.ref s.heap.objs.size) s') : wpAny (model prog w) A (call (.type "list") [.ref I]) Q E s := by
  have lI : I < s.heap.objs.size := by obtain ⟨_, e, _⟩ := it; exact Heap.lt_size e
  have ll : l < s.heap.objs.size := by obtain ⟨_, e, _⟩ := hl; exact Heap.lt_size e
  let h1 := s.heap.push { cls := .type "list", data := .seq #[] }
  have o1 : h1.get? s.heap.objs.size = some { cls := .type "list", data := .seq #[] } := Heap.get?_push_size _ rfl
  let h2 := h1.update s.heap.objs.size (Obj.mapSeq fun _ => (#[] : Array Value))
  have o2 := Heap.get?_update_self (Obj.mapSeq fun _ => (#[] : Array Value)) o1 rfl
  have k2 : ∀ b u, s.heap.get? b = some u → h2.get? b = some u := fun b u e => (Heap.get?_update_other _ _ (Nat.ne_of_gt (Heap.lt_size e))).trans (Heap.get?_push_of_some _ e)
  have go : ∀ B : Around, B.handled = none → ∀ (R : Result → Shared → Prop), (∀ s', RevDone { s with heap := h2 } s.heap.objs.size I items s' → R (.ok (.ret .none)) s') →
      wpAny (model prog w) B.in1 (Builtin.List.listExtendWith (.ref s.heap.objs.size) (.ref I) .none) (fun fin s' => match fin with | .done f => R (.ok f) s' | .again c' => c'.quiet = true ∧ codeAny (model prog w) B c' R s') (fun e s' => R (.error e) s') { s with heap := h2 } :=
    fun B hB R hR => fill_rev (s := { s with heap := h2 }) hB o2 (it.at fun o e => k2 _ _ e) (hl.at fun o e => k2 _ _ e) (Nat.ne_of_gt lI) (Nat.ne_of_gt ll) ne z hR
  refine callType_codes (Q₁ := fun v s1 => v = .ref s.heap.objs.size ∧ s1 = { s with heap := h1 }) PySem.F.called_list (PySem.F.typeCall_list_1 _) PySem.F.entry_list_init (code_list_new _ ⟨rfl, rfl⟩) ?_
  rintro _ _ ⟨rfl, rfl⟩
  refine ⟨⟨_, o1, rfl⟩, PySem.F.args_list_init_2 _ _, ?_⟩
  unfold Builtin.«list.__init__»
  refine wpAny_bind (m := Builtin.List.listItems (.ref s.heap.objs.size)) (wpAny_listItems o1 rfl ?_)
  refine wpAny_bind (m := updateSeq s.heap.objs.size fun _ => #[]) (wpAny_updateSeq o1 rfl (wpAny_bind (wpAny_letGo ?_)))
  refine go A.in1 (by simp [calm]) _ fun s' d => ⟨rfl, h s' ⟨fun b u b1 b2 e => d.old b u b1 b2 (k2 b u e), d.eq, d.lst⟩⟩
end
section
variable {X : Cx}
theorem pe_listRev {e : Expr} {ta : TA} {p1 p2 pos1 pos2 : Pos} (hc : X.calm = true) (hgl : Gl X "list") (hml : X.mg "list" = none) (hgr : Gl X "reversed") (hmr : X.mg "reversed" = none) (ha : PA X [e] ta) (hs : starEach [e] X.env = [(false, eval e X.env)] := by rfl)
    (hs2 : starEach [.Call (.Name "reversed" p2) [e] [] pos2] X.env = [(false, eval (.Call (.Name "reversed" p2) [e] [] pos2) X.env)] := by rfl) :
    PE X (.Call (.Name "list" p1) [.Call (.Name "reversed" p2) [e] [] pos2] [] pos1) (fun σ H Q => ta σ H fun vs H1 => ∃ p ys, vs = [.ref p] ∧ SqL X.K H1 p ys ∧ ∀ l, H1 l = none → Q (.ref l) (upd H1 l (.lst ys.reverse))) := by
  intro pins s σ H Q I h
  refine wpAny_Call_Name_kw (ld_blt I hgl hml boot_list (PyProof.Rows.callWith_type1 ?_ hs2 rfl))
  rw [hs2]
  refine Calls.spliced_cons (Call_ (ld_blt I hgr hmr boot_reversed (PyProof.Rows.callWith_type1 (thn (ha pos2 pins s σ H _ I h) fun us s1 q0 => ?_) hs rfl)))
  obtain ⟨vs, H1, I1, r1, p, ys, e0, hq, q⟩ := q0
  subst e0
  obtain ⟨u, rfl, ru⟩ := r1.one
  cases ru
  obtain ⟨its, rv, pl, hz⟩ := I1.list hq
  have len := rv.length
  refine call_reversed_list pl.isList (Calls.spliced_nil ?_)
  have fr := I1.fresh
  have I2 : Inv X pins σ H1 { s1 with heap := s1.heap.push (revObj p ((its.toArray.size : Int) - 1)) } := I1.kept (t' := s1.toks) fun b o e => Heap.get?_push_of_some _ e
  have fpI := I1.fpOk (H' := H1) (Nat.le_refl _) fr
  have lp : p < s1.heap.objs.size := by obtain ⟨_, e, _⟩ := pl.isList; exact Heap.lt_size e
  have sz : (s1.heap.push (revObj p ((its.toArray.size : Int) - 1))).objs.size = s1.heap.objs.size + 1 := Heap.size_push ..
  refine list_rev (s := { s1 with heap := s1.heap.push (revObj p ((its.toArray.size : Int) - 1)) }) (I.ok.hd hc) ⟨_, Heap.get?_push_size _ rfl, rfl, rfl⟩ (pl.isList.push _) (Nat.ne_of_lt lp) (by simp only [List.size_toArray]; omega) fun s' d => ?_
  rw [sz]
  rw [sz] at d
  obtain ⟨h', tk, rfl⟩ := d.eq
  obtain ⟨acc, c, o', a1, a2⟩ := d.lst
  have fr2 : H1 (s1.heap.objs.size + 1) = none := I1.hok.fresh (Nat.le_succ _)
  have fpS := I1.fpOk (H' := H1) (Nat.le_succ _) fr2
  have I3 : Inv X pins σ H1 { s1 with heap := h', toks := tk } := I1.turnedL (t' := tk) (ch := [s1.heap.objs.size]) (fun b o nb e => d.old b o (fun z => nb (by simp [z])) (Nat.ne_of_lt (Nat.lt_succ_of_lt (Heap.lt_size e))) (Heap.get?_push_of_some _ e)) fun b hb => by rw [List.mem_singleton.mp hb]; exact fpI
  refine ⟨.ref (s1.heap.objs.size + 1), _, I3.track fr2 (Nat.le_trans I1.sz (Nat.le_succ _)) fpS.2.1 fpS.2.2.2.2.1 fpS.2.2.2.2.2 ?_, rfl, q _ fr2⟩
  refine ⟨by rw [List.length_reverse]; omega, acc.toList, c, vals_by (by simp only [List.length_reverse, Array.length_toList, a1, List.size_toArray]; exact len) fun i x u e1 e2 => ?_, o'⟩
  have hi : i < ys.length := by have := (List.getElem?_eq_some_iff.mp e1).1; rwa [List.length_reverse] at this
  rw [List.getElem?_reverse hi] at e1
  obtain ⟨u2, hu2, ru2⟩ := rv.get e1
  have e3 := a2 i u (by rw [← Array.getElem?_toList]; exact e2)
  rw [List.size_toArray, ← len] at e3
  have e4 : its[ys.length - 1 - i]? = some u := by simpa using e3
  rw [hu2] at e4
  cases e4
  exact ru2
end
end L2

namespace Hf
open PySem PySem.Spec PyProof.Rows L2
def top (i : Nat) : Stmt := PySem.Challenge.pw_hirefair_k03_shows_short.main.body.getD i (.Pass ⟨0, 0, 0, 0⟩)
abbrev s_check_table : Stmt := top 4
theorem sc_check_table : FnScope ["many", "rows", "row"] ["many", "rows"] (defScope s_check_table) := ⟨rfl, rfl, rfl, by decide +kernel, rfl, by decide +kernel, by decide +kernel⟩
abbrev s_rises_within : Stmt := top 6
theorem sc_rises_within : FnScope ["numbers", "count", "before", "number"] ["numbers", "count"] (defScope s_rises_within) := ⟨rfl, rfl, rfl, by decide +kernel, rfl, by decide +kernel, by decide +kernel⟩
abbrev s_all_told : Stmt := top 7
theorem sc_all_told : FnScope ["row", "tasks"] ["row", "tasks"] (defScope s_all_told) := ⟨rfl, rfl, rfl, by decide +kernel, rfl, by decide +kernel, by decide +kernel⟩
abbrev s_shows_short : Stmt := top 8
theorem sc_shows_short : FnScope ["many", "rows", "hands", "tasks"] ["many", "rows", "hands", "tasks"] (defScope s_shows_short) := ⟨rfl, rfl, rfl, by decide +kernel, rfl, by decide +kernel, by decide +kernel⟩
abbrev s_draw : Stmt := top 10
theorem sc_draw : FnScope ["_law_number", "_law_prime", "_law_many"] ["_law_number", "_law_prime", "_law_many"] (defScope s_draw) := ⟨rfl, rfl, rfl, by decide +kernel, rfl, by decide +kernel, by decide +kernel⟩
abbrev s_whole : Stmt := top 11
theorem sc_whole : FnScope ["_law_found"] ["_law_found"] (defScope s_whole) := ⟨rfl, rfl, rfl, by decide +kernel, rfl, by decide +kernel, by decide +kernel⟩
abbrev s_at : Stmt := top 12
theorem sc_at : FnScope ["_law_script", "_law_k"] ["_law_script", "_law_k"] (defScope s_at) := ⟨rfl, rfl, rfl, by decide +kernel, rfl, by decide +kernel, by decide +kernel⟩
abbrev s_copies : Stmt := top 13
theorem sc_copies : FnScope ["_law_rows"] ["_law_rows"] (defScope s_copies) := ⟨rfl, rfl, rfl, by decide +kernel, rfl, by decide +kernel, by decide +kernel⟩
abbrev s_same_cost : Stmt := top 14
theorem sc_same_cost : FnScope ["_law_one", "_law_cost"] ["_law_one", "_law_cost"] (defScope s_same_cost) := ⟨rfl, rfl, rfl, by decide +kernel, rfl, by decide +kernel, by decide +kernel⟩
abbrev s_same_row : Stmt := top 15
theorem sc_same_row : FnScope ["_law_one", "_law_row", "_law_j"] ["_law_one", "_law_row"] (defScope s_same_row) := ⟨rfl, rfl, rfl, by decide +kernel, rfl, by decide +kernel, by decide +kernel⟩
abbrev s_same_table : Stmt := top 16
theorem sc_same_table : FnScope ["_law_found", "_law_rows", "_law_k"] ["_law_found", "_law_rows"] (defScope s_same_table) := ⟨rfl, rfl, rfl, by decide +kernel, rfl, by decide +kernel, by decide +kernel⟩
abbrev s_rising : Stmt := top 17
theorem sc_rising : FnScope ["_law_row", "_law_most", "_law_last", "_law_one"] ["_law_row", "_law_most"] (defScope s_rising) := ⟨rfl, rfl, rfl, by decide +kernel, rfl, by decide +kernel, by decide +kernel⟩
abbrev s_short_shown : Stmt := top 18
theorem sc_short_shown : FnScope ["_law_many", "_law_rows", "_law_hands", "_law_tasks", "_law_hand", "_law_task"] ["_law_many", "_law_rows", "_law_hands", "_law_tasks"] (defScope s_short_shown) := ⟨rfl, rfl, rfl, by decide +kernel, rfl, by decide +kernel, by decide +kernel⟩
abbrev s_spoilt : Stmt := top 19
theorem sc_spoilt : FnScope ["_law_hands", "_law_tasks", "_law_way", "_law_spot", "_law_most"] ["_law_hands", "_law_tasks", "_law_way", "_law_spot", "_law_most"] (defScope s_spoilt) := ⟨rfl, rfl, rfl, by decide +kernel, rfl, by decide +kernel, by decide +kernel⟩
abbrev s_law : Stmt := top 20
theorem sc_law : FnScope ["_law_script", "_law_seed", "_law_many", "_law_count", "_law_hands", "_law_tasks", "_law_rows", "_law_hand", "_law_row", "_law_task", "_law_cell", "_law_cost", "_law_way", "_law_spot", "_law_untold", "_law_handed", "_law_found"] ["_law_script"] (defScope s_law) := ⟨rfl, rfl, rfl, by decide +kernel, rfl, by decide +kernel, by decide +kernel⟩
/-- the built-in names are not the program's -/
structure Blt (mg : Str → Option Value) : Prop where
  len : mg "len" = none
  range : mg "range" = none
  isinstance : mg "isinstance" = none
  int : mg "int" = none
  bool : mg "bool" = none
  list : mg "list" = none
  all : mg "all" = none
  min : mg "min" = none
  set : mg "set" = none
  zip : mg "zip" = none
  enumerate : mg "enumerate" = none
  sum : mg "sum" = none
  vErr : mg "ValueError" = none

section
variable {P : Program} {w : World} {K : PySem.W.Frag} {mg : Str → Option Value} {base : Heap}

/-! ### the law's small defs -/
def sp_draw : Sp := fun vs H Q _ => ∃ n p m : Int, vs = [.int n, .int p, .int m] ∧ 0 < p ∧ 0 < m ∧ ∀ r : Int, 0 ≤ r → r < m → Q (.int r) H
theorem ok_draw (D : DefIs K mg "_law_draw" s_draw ["_law_number", "_law_prime", "_law_many"]) : Has P w K mg base 1 "_law_draw" ["_law_number", "_law_prime", "_law_many"] sp_draw := by
  refine D.has sc_draw (fun vs H Q E h => ?_) fun f cdv A outer s H vs Q E hr h => ?_
  · obtain ⟨n, p, m, rfl, _⟩ := h; rfl
  · obtain ⟨n, p, m, rfl, hp, hm, k⟩ := h
    refine ⟨_, pss_one (ps_ret (pe_op op_mod (pe_op op_mod (pe_op op_mul (pv 0) pe_int) (pv 1)) (pv 2))), ?_⟩
    refine ⟨_, rfl, _, _, rfl, rfl, .inr ⟨by decide, by decide⟩, _, rfl, _, _, rfl, rfl, hp, _, rfl, _, _, rfl, rfl, hm, ?_⟩
    exact k _ (Int.emod_nonneg _ (by omega)) (Int.emod_lt_of_pos _ hm)

def sp_at (K : PySem.W.Frag) : Sp := fun vs H Q _ => ∃ (a : Addr) (ns : List Int) (i : Int), vs = [.ref a, .int i] ∧ IntsAt K H a ns ∧ 0 ≤ i ∧ ∀ n : Int, Q (.int n) H
theorem ok_at (B : Blt mg) (D : DefIs K mg "_law_at" s_at ["_law_script", "_law_k"]) : Has P w K mg base 1 "_law_at" ["_law_script", "_law_k"] (sp_at K) := by
  refine D.has sc_at (fun vs H Q E h => ?_) fun f cdv A outer s H vs Q E hr h => ?_
  · obtain ⟨a, ns, i, rfl, _⟩ := h; rfl
  · obtain ⟨a, ns, i, rfl, hS, h0, k⟩ := h
    refine ⟨_, pss_cons (ps_if (pt_cmpR op_lt (pv 1) (pe_callB call_len_seq (by rfl) B.len boot_len (pa_cons (pv 0) pa_nil)) (nomark _)) (pss_one (ps_ret (pe_ix ix_list (pv 0) (pv 1) (fun _ _ => rfl)))) pss_nil)
      (pss_one (ps_ret pe_int)), ?_⟩
    refine ⟨_, rfl, _, rfl, a, _, rfl, .inl hS, _, _, rfl, rfl, _, rfl, ?_⟩
    refine ite2 (fun h => ?_) (fun h => ?_)
    · have h' : i < ((ns.map V.int).length : Int) := of_decide_eq_true h
      rw [List.length_map] at h'
      have hi : i.toNat < ns.length := by omega
      refine ⟨_, rfl, _, rfl, a, _, i, .int ns[i.toNat], rfl, rfl, hS, atI_int h0 (by rw [List.getElem?_map, List.getElem?_eq_getElem hi]; rfl), ?_⟩
      exact k _
    · exact k _

def sp_whole : Sp := fun vs H Q _ => ∃ (c : Option Int), vs = [cellV c] ∧ Q (.bl c.isSome) H
theorem ok_whole (B : Blt mg) (D : DefIs K mg "_law_whole" s_whole ["_law_found"]) : Has P w K mg base 1 "_law_whole" ["_law_found"] sp_whole := by
  refine D.has sc_whole (fun vs H Q E h => ?_) fun f cdv A outer s H vs Q E hr h => ?_
  · obtain ⟨c, rfl, _⟩ := h; rfl
  · obtain ⟨c, rfl, k⟩ := h
    refine ⟨_, pss_one (ps_ret (pe_and (pe_callB call_isi (by rfl) B.isinstance boot_isinstance (pa_cons (pv 0) (pa_cons (pe_ty (by rfl) B.int boot_int) pa_nil))) (pe_one (pe_not (pe_callB call_isi (by rfl) B.isinstance boot_isinstance (pa_cons (pv 0) (pa_cons (pe_ty (by rfl) B.bool boot_bool) pa_nil))))))), ?_⟩
    cases c with
    | none => exact ⟨_, rfl, _, _, _, false, rfl, .non, by rfl, _, rfl, iteF k⟩
    | some i => exact ⟨_, rfl, _, _, _, true, rfl, .int i, by rfl, _, rfl, iteT ⟨_, rfl, _, _, _, false, rfl, .int i, by rfl, _, rfl, k⟩⟩

def sp_same_cost : Sp := fun vs H Q _ => ∃ (c d : Option Int), vs = [cellV c, cellV d] ∧ Q (.bl (decide (c = d))) H
theorem ok_same_cost (B : Blt mg) (Gw : Has P w K mg base 1 "_law_whole" ["_law_found"] sp_whole) (D : DefIs K mg "_law_same_cost" s_same_cost ["_law_one", "_law_cost"]) :
    Has P w K mg base 2 "_law_same_cost" ["_law_one", "_law_cost"] sp_same_cost := by
  refine D.has sc_same_cost (fun vs H Q E h => ?_) fun f cdv A outer s H vs Q E hr h => ?_
  · obtain ⟨c, d, rfl, _⟩ := h; rfl
  · obtain ⟨c, d, rfl, k⟩ := h
    refine ⟨_, pss_cons (ps_if (pt_cmpR op_isN (pv 1) pe_non (nomark _)) (pss_one (ps_ret (pe_cmpR op_isN (pv 0) pe_non (nomark _)))) pss_nil)
      (pss_one (ps_ret (pe_and (pe_fn Gw hr (by rfl) (pa_cons (pv 0) pa_nil)) (pe_one (pe_cmpR op_eq (pv 0) (pv 1) (nomark _)))))), ?_⟩
    refine ⟨_, rfl, rfl, _, rfl, ?_⟩
    cases d with
    | none =>
      refine iteT ⟨_, rfl, rfl, ?_⟩
      cases c with
      | none => exact k
      | some i => exact k
    | some j =>
      refine iteF ⟨_, rfl, c, rfl, _, rfl, ?_⟩
      cases c with
      | none => exact iteF k
      | some i =>
        refine iteT ⟨_, rfl, _, rfl, rfl, ?_⟩
        have e : decide (cellV (some i) = cellV (some j)) = decide ((some i : Option Int) = some j) := by
          by_cases h : i = j
          · subst h; simp
          · have e1 : ¬ cellV (some i) = cellV (some j) := fun z => h (V.int.inj z)
            have e2 : ¬ (some i : Option Int) = some j := fun z => h (Option.some.inj z)
            rw [decide_eq_false e1, decide_eq_false e2]
        rw [e]; exact k

/-- rows of the same costs -/
def sp_same_row (K : PySem.W.Frag) : Sp := fun vs H Q _ => ∃ (a b : Addr) (r q : HRow), vs = [.ref a, .ref b] ∧ H a = some (.lst (r.map cellV)) ∧ RowAt K H b q ∧ r.length ≤ 1000 ∧ ∀ t : Bool, (t = true ↔ r = q) → Q (.bl t) H
theorem ok_same_row (B : Blt mg) (Gc : Has P w K mg base 2 "_law_same_cost" ["_law_one", "_law_cost"] sp_same_cost) (D : DefIs K mg "_law_same_row" s_same_row ["_law_one", "_law_row"]) :
    Has P w K mg base 3 "_law_same_row" ["_law_one", "_law_row"] (sp_same_row K) := by
  refine D.has sc_same_row (fun vs H Q E h => ?_) fun f cdv A outer s H vs Q E hr h => ?_
  · obtain ⟨a, b, r, q, rfl, _⟩ := h; rfl
  · obtain ⟨a, b, r, q, rfl, ha, hb, hz, k⟩ := h
    refine ⟨_, pss_cons (ps_if ((pw_or (pt_not (pt_val (pe_callB call_isi (by rfl) B.isinstance boot_isinstance (pa_cons (pv 0) (pa_cons (pe_ty (by rfl) B.list boot_list) pa_nil)))))
        (pw_or1 (pt_cmpR op_ne (pe_callB call_len_seq (by rfl) B.len boot_len (pa_cons (pv 0) pa_nil)) (pe_callB call_len_seq (by rfl) B.len boot_len (pa_cons (pv 1) pa_nil)) (nomark _))))).pt (pss_one (ps_ret pe_bl)) pss_nil)
      (pss_cons (ps_for PassesOwn.never rfl (pi_range1 (by rfl) B.range (pa_cons (pe_callB call_len_seq (by rfl) B.len boot_len (pa_cons (pv 1) pa_nil)) pa_nil)) (pg_name (i := 2) sc_same_row.nd rfl (Or.inl rfl))
        (pss_one (ps_if (pt_not (pt_val (pe_fn Gc hr (by rfl) (pa_cons (pe_ix ix_list (pv 0) (pv 2) (fun _ _ => rfl)) (pa_cons (pe_ix ix_list (pv 1) (pv 2) (fun _ _ => rfl)) pa_nil))))) (pss_one (ps_ret pe_bl)) pss_nil)))
      (pss_one (ps_ret pe_bl))), ?_⟩
    refine ⟨_, rfl, _, _, _, true, rfl, .lst ha, by rfl, _, rfl, iteF ?_⟩
    refine ⟨_, rfl, a, _, rfl, .inl (SqL.of ha), _, rfl, b, _, rfl, .inl hb, rfl, _, rfl, ?_⟩
    refine ite2 (fun h => ?_) (fun h => ?_)
    · refine k false (iffF fun z => ?_)
      subst z
      simp at h
    · have hl : r.length = q.length := by
        simp at h
        omega
      refine ⟨_, rfl, b, _, rfl, .inl hb, _, rfl, by omega, by rw [List.length_map]; omega, ?_⟩
      refine for_range (fun i σ H2 => ∃ v, σ = [some (.ref a), some (.ref b), v] ∧ H2 = H ∧ ∀ (j : Nat), j < i → r[j]? = q[j]?) ⟨none, rfl, rfl, fun j hj => absurd hj (Nat.not_lt_zero j)⟩ ?_ ?_
      · rintro i σ H2 hi ⟨v, rfl, rfl, hm⟩
        have hi' : i < q.length := by simpa using hi
        have e1 : (r.map cellV)[i]? = some (cellV r[i]) := by rw [List.getElem?_map, List.getElem?_eq_getElem (by omega)]; rfl
        have e2 : (q.map cellV)[i]? = some (cellV q[i]) := by rw [List.getElem?_map, List.getElem?_eq_getElem hi']; rfl
        refine ⟨_, rfl, _, rfl, a, _, _, _, rfl, rfl, SqL.of ha, by rw [Int.zero_add]; exact atI_nat e1, _, rfl, _, rfl, b, _, _, _, rfl, rfl, hb, by rw [Int.zero_add]; exact atI_nat e2, _, _, rfl, _, rfl, ?_⟩
        refine ite2 (fun h => ?_) (fun h => ?_)
        · refine k false (iffF fun z => ?_)
          subst z
          simp at h
        · have e3 : r[i] = q[i] := by simpa using h
          refine ⟨_, rfl, rfl, fun j hj => ?_⟩
          by_cases hji : j = i
          · subst hji
            rw [List.getElem?_eq_getElem (by omega), List.getElem?_eq_getElem hi', e3]
          · exact hm j (by omega)
      · rintro σ H2 ⟨v, rfl, rfl, hm⟩
        refine k true ⟨fun _ => ?_, fun _ => rfl⟩
        refine List.ext_getElem? fun j => ?_
        by_cases hj : j < q.length
        · exact hm j (by simpa using hj)
        · rw [List.getElem?_eq_none_iff.mpr (by omega), List.getElem?_eq_none_iff.mpr (by omega)]
end


/-! ### what the points say -/
def Wide (m : Int) (T : HTab) : Prop := ∀ (i : Nat) r, T[i]? = some r → (r.length : Int) = m

section
variable {P : Program} {w : World} {K : PySem.W.Frag} {mg : Str → Option Value} {base : Heap}

theorem tab_row {H : Hp} {as : List Addr} {T : HTab} (hl : as.length = T.length) {i : Nat} {b : Addr} (h : as[i]? = some b) : ∃ r, T[i]? = some r := by
  have := (List.getElem?_eq_some_iff.mp h).1
  exact ⟨T[i]'(by omega), List.getElem?_eq_getElem _⟩

def sp_check_table (K : PySem.W.Frag) : Sp := fun vs H Q _ => ∃ (m : Int) (a : Addr) (T : HTab), vs = [.int m, .ref a] ∧ TabAt K H a T ∧ Wide m T ∧ Q .non H
theorem ok_check_table (B : Blt mg) (D : DefIs K mg "check_table" s_check_table ["many", "rows"]) : Has P w K mg base 1 "check_table" ["many", "rows"] (sp_check_table K) := by
  refine D.has sc_check_table (fun vs H Q E h => ?_) fun f cdv A outer s H vs Q E hr h => ?_
  · obtain ⟨m, a, T, rfl, _⟩ := h; rfl
  · obtain ⟨m, a, T, rfl, ⟨as, ha, hl, hrow⟩, hw, k⟩ := h
    refine ⟨_, pss_one (ps_for PassesOwn.never rfl (pi_list (pv 1)) (pg_name (i := 2) sc_check_table.nd rfl (Or.inl rfl)) (pss_one (ps_if (pt_cmpR op_ne (pe_callB call_len_seq (by rfl) B.len boot_len (pa_cons (pv 2) pa_nil)) (pv 0) (nomark _)) (pss_one ps_never) pss_nil))), ?_⟩
    refine ⟨_, rfl, a, rfl, ⟨_, ha⟩, for_list (K := K) (a := a) (xs := as.map V.ref) (fun i σ H2 => ∃ v, σ = [some (.int m), some (.ref a), v] ∧ H2 = H) ⟨none, rfl, rfl⟩ (fun i σ H2 _ ⟨_, _, e⟩ => by rw [e]; exact ha) ?_ ?_⟩
    · rintro i y σ H2 hi ⟨v, rfl, rfl⟩
      obtain ⟨b, hb, rfl⟩ := get_ref hi
      obtain ⟨r, hr'⟩ := tab_row (H := H2) hl hb
      refine ⟨_, rfl, b, _, rfl, .inl (hrow i b r hb hr'), _, rfl, rfl, _, rfl, ?_⟩
      refine iteNS ?_ ⟨_, rfl, rfl⟩
      rw [List.length_map, hw i r hr']
    · rintro σ H2 ⟨v, rfl, rfl⟩
      exact k

end

section
variable {P : Program} {w : World} {K : PySem.W.Frag} {mg : Str → Option Value} {base : Heap}

theorem fm_map (n : Nat) (g : Nat → V) : (List.range n).filterMap (fun i => some (g i)) = (List.range n).map g := by
  rw [List.filterMap_eq_map']
theorem fm_bl (n : Nat) (g : Nat → Bool) : (List.range n).filterMap (fun i => some (V.bl (g i))) = ((List.range n).map g).map V.bl := by
  rw [List.map_map]
  exact fm_map n _
theorem all_id (n : Nat) (g : Nat → Bool) : ((List.range n).map g).all id = true ↔ ∀ i, i < n → g i = true := by
  rw [List.all_map, List.all_eq_true]
  exact ⟨fun h i hi => h i (List.mem_range.mpr hi), fun h i hi => h i (List.mem_range.mp hi)⟩

end

end Hf

namespace Hf
open PySem PySem.Spec PyProof.Rows L2
/-! ### tables that the law owns -/
/-- the table's list at l, its rows at as: nobody else's -/
structure Own (H : Hp) (l : Addr) (as : List Addr) (T : HTab) : Prop where
  lst : H l = some (.lst (as.map V.ref))
  len : as.length = T.length
  nd : (l :: as).Nodup
  row : ∀ (i : Nat) b r, as[i]? = some b → T[i]? = some r → H b = some (.lst (r.map cellV))
theorem Own.tab {K : PySem.W.Frag} {H : Hp} {l : Addr} {as : List Addr} {T : HTab} (o : Own H l as T) : TabAt K H l T := ⟨as, SqL.of o.lst, o.len, fun i b r e1 e2 => SqL.of (o.row i b r e1 e2)⟩
theorem Own.same {H H' : Hp} {l : Addr} {as : List Addr} {T : HTab} (o : Own H l as T) (e : Same H H') : Own H' l as T := ⟨e _ _ o.lst, o.len, o.nd, fun i b r e1 e2 => e _ _ (o.row i b r e1 e2)⟩
theorem Own.mem {H : Hp} {l : Addr} {as : List Addr} {T : HTab} (o : Own H l as T) {b : Addr} (hb : b ∈ as) : ∃ r : HRow, H b = some (.lst (r.map cellV)) := by
  obtain ⟨i, hi, e⟩ := List.mem_iff_getElem.mp hb
  have hT : i < T.length := by have := o.len; omega
  exact ⟨T[i], o.row i b T[i] (by rw [← e]; exact List.getElem?_eq_getElem hi) (List.getElem?_eq_getElem hT)⟩
/-- a row is rewritten -/
theorem Own.put {H : Hp} {l b : Addr} {as : List Addr} {T : HTab} {i : Nat} {q : HRow} (o : Own H l as T) (hb : as[i]? = some b) : Own (upd H b (.lst (q.map cellV))) l as (T.set i q) := by
  have hlb : l ≠ b := fun e => (List.nodup_cons.mp o.nd).1 (e ▸ List.mem_of_getElem? hb)
  refine ⟨by rw [upd_ne hlb]; exact o.lst, by rw [List.length_set]; exact o.len, o.nd, fun j c r e1 e2 => ?_⟩
  by_cases hj : j = i
  · subst hj
    rw [hb] at e1; cases e1
    have hi : j < T.length := by
      have := (List.getElem?_eq_some_iff.mp hb).1
      have := o.len; omega
    rw [List.getElem?_set_self hi] at e2
    cases e2
    exact upd_same
  · rw [List.getElem?_set_ne (Ne.symm hj)] at e2
    have hcb : c ≠ b := fun e => by
      subst e
      have hn := (List.nodup_cons.mp o.nd).2
      exact hj (((List.getElem?_inj (List.getElem?_eq_some_iff.mp e1).1 hn).mp (e1.trans hb.symm)))
    rw [upd_ne hcb]; exact o.row j c r e1 e2

theorem comp_list_by {K : PySem.W.Frag} {a : Addr} {xs : List V} {own : Nat} {js : List Nat} {g : TG} {tt : TT} {te : TE} {σ : L2.St} {H : Hp} {Qf : List V → Hp → Prop} (Pv : Nat → List V → Hp → Prop) (h0 : Pv 0 [] H) (hz : xs.length ≤ 1000)
    (hlen : ∀ i ys H2, Pv i ys H2 → ys.length ≤ i) (hl : ∀ i ys H2, Pv i ys H2 → SqL K H2 a xs) (hd : ∀ ys H2, Pv xs.length ys H2 → Qf ys H2)
    (hs : ∀ (i : Nat) ys H2 x, xs[i]? = some x → Pv i ys H2 → g x (cst own js σ) H2 fun σ3 H4 => tt σ3 H4 fun b H5 => if b = true then te σ3 H5 fun y H6 => Pv (i + 1) (ys ++ [y]) H6 else Pv (i + 1) ys H5) :
    compRd own js g tt te σ (Itl K a) H Qf := by
  refine comp_by (n := xs.length) Pv h0 hz hlen (fun i ys H2 hi p => ⟨xs, xs[i], hl i ys H2 p, by simp [hi]⟩) (fun ys H2 p => ⟨⟨xs, hl _ _ _ p, Nat.le_refl _⟩, hd ys H2 p⟩) ?_
  intro i ys H2 x H3 hi p y
  obtain ⟨e, y⟩ := y
  subst e
  exact hs i ys _ x (y xs (hl i ys _ p)) p

section
variable {P : Program} {w : World} {K : PySem.W.Frag} {mg : Str → Option Value} {base : Heap}

def sp_copies (K : PySem.W.Frag) : Sp := fun vs H Q _ => ∃ (a : Addr) (T : HTab), vs = [.ref a] ∧ TabAt K H a T ∧ T.length ≤ 1000 ∧ ∀ (l : Addr) (as : List Addr) H', Same H H' → Own H' l as T → (∀ x ∈ l :: as, H x = none) → Q (.ref l) H'
theorem ok_copies (B : Blt mg) (D : DefIs K mg "_law_copies" s_copies ["_law_rows"]) : Has P w K mg base 1 "_law_copies" ["_law_rows"] (sp_copies K) := by
  refine D.has sc_copies (fun vs H Q E h => ?_) fun f cdv A outer s H vs Q E hr h => ?_
  · obtain ⟨a, T, rfl, _⟩ := h; rfl
  · obtain ⟨a, T, rfl, ⟨as, ha, hl, hrow⟩, hT, k⟩ := h
    refine ⟨_, pss_one (ps_ret (pe_comp (sc := defScope s_copies) (XN := ["_law_rows"]) (own := ["_law_row"]) (fr := []) (js := []) rfl rfl rfl (⟨rfl, by decide +kernel, by decide +kernel, by decide +kernel, rfl, by decide +kernel⟩)
      (pi_list (pv 0)) (fun _ _ _ _ _ => (pg_name (i := 0) (show List.Nodup (["_law_row"] : List Str) by decide +kernel) rfl (Or.inl rfl))) (fun _ _ _ _ _ => pts_nil) (fun _ _ _ _ _ => (pe_callTy (call_list_ofK (K := K) rfl) (by rfl) B.list boot_list (pa_cons (pv 0) pa_nil))))), ?_⟩
    refine ⟨_, rfl, a, rfl, ⟨_, ha⟩, ?_⟩
    refine comp_list_by (K := K) (xs := as.map V.ref) (fun i ys H2 => Same H H2 ∧ ∃ bs : List Addr, ys = bs.map V.ref ∧ bs.length = i ∧ bs.Nodup ∧ (∀ (j : Nat) b r, bs[j]? = some b → T[j]? = some r → H2 b = some (.lst (r.map cellV))) ∧ ∀ b ∈ bs, H b = none)
      ⟨Same.refl H, [], rfl, rfl, List.nodup_nil, fun j b r e => (by simp at e), fun b hb => nomatch hb⟩ (by rw [List.length_map]; omega) ?_ (fun i ys H2 p => p.1.seq ha) ?_ ?_
    · rintro i ys H2 ⟨_, bs, rfl, hb, _⟩
      rw [List.length_map]; omega
    · rintro ys H2 ⟨sm, bs, rfl, hb, nd, hrows, hfr⟩ D' hD'
      rw [List.length_map] at hb
      have hne : ∀ b ∈ bs, b ≠ D' := fun b hb' e => by
        obtain ⟨j, hj, ej⟩ := List.mem_iff_getElem.mp hb'
        have hjT : j < T.length := by omega
        have := hrows j b T[j] (by rw [← ej]; exact List.getElem?_eq_getElem hj) (List.getElem?_eq_getElem hjT)
        rw [e, hD'] at this
        cases this
      refine k D' bs _ (sm.upd hD') ⟨upd_same, by omega, List.nodup_cons.mpr ⟨fun z => hne _ z rfl, nd⟩, fun i b r e1 e2 => ?_⟩ fun x hx => ?_
      · rw [upd_ne (hne b (List.mem_of_getElem? e1))]; exact hrows i b r e1 e2
      · rcases List.mem_cons.mp hx with e | e
        · rw [e]; exact sm.free hD'
        · exact hfr x e
    · rintro i ys H2 x hx ⟨sm, bs, rfl, hb, nd, hrows, hfr⟩
      obtain ⟨b0, hb0, rfl⟩ := get_ref hx
      obtain ⟨r0, hr0⟩ := tab_row (H := H) hl hb0
      refine ⟨_, rfl, b0, _, rfl, .inl (sm.seq (hrow i b0 r0 hb0 hr0)), fun l hl0 => ?_⟩
      have hne : ∀ b ∈ bs, b ≠ l := fun b hb' e => by
        obtain ⟨j, hj, ej⟩ := List.mem_iff_getElem.mp hb'
        have hi := (List.getElem?_eq_some_iff.mp hr0).1
        have hjT : j < T.length := by omega
        have := hrows j b T[j] (by rw [← ej]; exact List.getElem?_eq_getElem hj) (List.getElem?_eq_getElem hjT)
        rw [e, hl0] at this
        cases this
      refine ⟨sm.upd hl0, bs ++ [l], by rw [List.map_append]; rfl, by rw [List.length_append, hb]; rfl, ?_, fun j b r e1 e2 => ?_, fun b hb' => ?_⟩
      · rw [List.nodup_append]
        refine ⟨nd, by simp, fun a1 h1 b1 h2 => ?_⟩
        have : b1 = l := by simpa using h2
        rw [this]; exact hne a1 h1
      · by_cases hj : j < bs.length
        · rw [List.getElem?_append_left hj] at e1
          rw [upd_ne (hne b (List.mem_of_getElem? e1))]; exact hrows j b r e1 e2
        · have hlt := (List.getElem?_eq_some_iff.mp e1).1
          rw [List.length_append, List.length_singleton] at hlt
          have hji : j = bs.length := by omega
          subst hji
          rw [List.getElem?_append_right (Nat.le_refl _), Nat.sub_self] at e1
          cases e1
          rw [hb, hr0] at e2
          cases e2
          exact upd_same
      · rcases List.mem_append.mp hb' with e | e
        · exact hfr b e
        · have : b = l := by simpa using e
          rw [this]; exact sm.free hl0

/-- tables of the same rows -/
def sp_same_table (K : PySem.W.Frag) : Sp := fun vs H Q _ => ∃ (a b : Addr) (as : List Addr) (T U : HTab), vs = [.ref a, .ref b] ∧ H a = some (.lst (as.map V.ref)) ∧ as.length = T.length ∧ (∀ (i : Nat) c r, as[i]? = some c → T[i]? = some r → H c = some (.lst (r.map cellV)) ∧ r.length ≤ 1000) ∧
  TabAt K H b U ∧ T.length ≤ 1000 ∧ ∀ t : Bool, (t = true ↔ T = U) → Q (.bl t) H
theorem ok_same_table (B : Blt mg) (Gr : Has P w K mg base 3 "_law_same_row" ["_law_one", "_law_row"] (sp_same_row K)) (D : DefIs K mg "_law_same_table" s_same_table ["_law_found", "_law_rows"]) :
    Has P w K mg base 4 "_law_same_table" ["_law_found", "_law_rows"] (sp_same_table K) := by
  refine D.has sc_same_table (fun vs H Q E h => ?_) fun f cdv A outer s H vs Q E hr h => ?_
  · obtain ⟨a, b, as, T, U, rfl, _⟩ := h; rfl
  · obtain ⟨a, b, as, T, U, rfl, ha, hl, hrow, ⟨bs, hb, hl2, hrow2⟩, hz, k⟩ := h
    refine ⟨_, pss_cons (ps_if ((pw_or (pt_not (pt_val (pe_callB call_isi (by rfl) B.isinstance boot_isinstance (pa_cons (pv 0) (pa_cons (pe_ty (by rfl) B.list boot_list) pa_nil)))))
        (pw_or1 (pt_cmpR op_ne (pe_callB call_len_seq (by rfl) B.len boot_len (pa_cons (pv 0) pa_nil)) (pe_callB call_len_seq (by rfl) B.len boot_len (pa_cons (pv 1) pa_nil)) (nomark _))))).pt (pss_one (ps_ret pe_bl)) pss_nil)
      (pss_cons (ps_for PassesOwn.never rfl (pi_range1 (by rfl) B.range (pa_cons (pe_callB call_len_seq (by rfl) B.len boot_len (pa_cons (pv 1) pa_nil)) pa_nil)) (pg_name (i := 2) sc_same_table.nd rfl (Or.inl rfl))
        (pss_one (ps_if (pt_not (pt_val (pe_fn Gr hr (by rfl) (pa_cons (pe_ix ix_list (pv 0) (pv 2) (fun _ _ => rfl)) (pa_cons (pe_ix ix_list (pv 1) (pv 2) (fun _ _ => rfl)) pa_nil))))) (pss_one (ps_ret pe_bl)) pss_nil)))
      (pss_one (ps_ret pe_bl))), ?_⟩
    refine ⟨_, rfl, _, _, _, true, rfl, .lst ha, by rfl, _, rfl, iteF ?_⟩
    refine ⟨_, rfl, a, _, rfl, .inl (SqL.of ha), _, rfl, b, _, rfl, .inl hb, rfl, _, rfl, ?_⟩
    refine ite2 (fun h => ?_) (fun h => ?_)
    · refine k false (iffF fun z => ?_)
      subst z
      have := neI h
      rw [List.length_map, List.length_map] at this
      omega
    · have hlen : T.length = U.length := by
        have := eqI h
        rw [List.length_map, List.length_map] at this
        omega
      refine ⟨_, rfl, b, _, rfl, .inl hb, _, rfl, by omega, by rw [List.length_map]; omega, ?_⟩
      refine for_range (fun i σ H2 => ∃ v, σ = [some (.ref a), some (.ref b), v] ∧ H2 = H ∧ ∀ (j : Nat), j < i → T[j]? = U[j]?) ⟨none, rfl, rfl, fun j hj => absurd hj (Nat.not_lt_zero j)⟩ ?_ ?_
      · rintro i σ H2 hi ⟨v, rfl, rfl, hm⟩
        have hi' : i < U.length := by simpa [hl2] using hi
        have e1 : (as.map V.ref)[i]? = some (.ref (as[i]'(by omega))) := by rw [List.getElem?_map, List.getElem?_eq_getElem (by omega)]; rfl
        have e2 : (bs.map V.ref)[i]? = some (.ref (bs[i]'(by omega))) := by rw [List.getElem?_map, List.getElem?_eq_getElem (by omega)]; rfl
        have r1 := hrow i (as[i]'(by omega)) (T[i]'(by omega)) (List.getElem?_eq_getElem _) (List.getElem?_eq_getElem _)
        have r2 := hrow2 i (bs[i]'(by omega)) (U[i]'(by omega)) (List.getElem?_eq_getElem _) (List.getElem?_eq_getElem _)
        refine ⟨_, rfl, _, rfl, a, _, _, _, rfl, rfl, SqL.of ha, by rw [Int.zero_add]; exact atI_nat e1, _, rfl, _, rfl, b, _, _, _, rfl, rfl, hb, by rw [Int.zero_add]; exact atI_nat e2, _, _, _, _, rfl, r1.1, r2, r1.2, fun t ht => ⟨t, rfl, ?_⟩⟩
        refine ite2 (fun h => ?_) (fun h => ?_)
        · refine k false (iffF fun z => ?_)
          subst z
          have := ht.mpr rfl
          rw [this] at h
          cases h
        · have e3 : T[i]'(by omega) = U[i]'(by omega) := ht.mp (by cases t with | true => rfl | false => exact absurd rfl h)
          refine ⟨_, rfl, rfl, fun j hj => ?_⟩
          by_cases hji : j = i
          · subst hji
            rw [List.getElem?_eq_getElem (by omega), List.getElem?_eq_getElem hi', e3]
          · exact hm j (by omega)
      · rintro σ H2 ⟨v, rfl, rfl, hm⟩
        refine k true (iffT ?_)
        refine List.ext_getElem? fun j => ?_
        by_cases hj : j < U.length
        · exact hm j (by simpa [hl2] using hj)
        · rw [List.getElem?_eq_none_iff.mpr (by omega), List.getElem?_eq_none_iff.mpr (by omega)]
end

theorem _root_.L2.Same.put {H H' : Hp} {p : Addr} {o : HO} (e : Same H H') (h : H p = none) : Same H (upd H' p o) := fun b u q => by
  rw [upd_ne (ne_of_none q h)]; exact e b u q
theorem ixN_ok {n : Nat} {i : Int} (h0 : 0 ≤ i) (h1 : i < n) : ixN n i = some i.toNat := by
  unfold ixN
  rw [if_pos h0, if_pos h1]
theorem bnot_true {b : Bool} (h : ¬ (!b) = true) : b = true := by
  cases b with
  | true => rfl
  | false => exact absurd rfl h
theorem bnot_false {b : Bool} (h : (!b) = true) : b = false := by
  cases b with
  | true => cases h
  | false => rfl


theorem app_row (r : HRow) (c : Option Int) : r.map cellV ++ [cellV c] = (r ++ [c]).map cellV := by rw [List.map_append]; rfl
theorem app_int (ns : List Int) (n : Int) : ns.map V.int ++ [V.int n] = (ns ++ [n]).map V.int := by rw [List.map_append]; rfl
theorem atI_some {ns : List Int} {k : Int} (h1 : -(ns.length : Int) ≤ k) (h2 : k < ns.length) : ∃ n, atI (ns.map V.int) k = some (.int n) := by
  unfold atI ixN
  rw [List.length_map]
  by_cases h0 : 0 ≤ k
  · rw [if_pos h0, if_pos h2]
    have : k.toNat < ns.length := by omega
    refine ⟨ns[k.toNat], ?_⟩
    show (ns.map V.int)[k.toNat]? = _
    rw [List.getElem?_map, List.getElem?_eq_getElem this]; rfl
  · rw [if_neg h0, if_pos h1]
    have : (k + (ns.length : Int)).toNat < ns.length := by omega
    refine ⟨ns[(k + (ns.length : Int)).toNat], ?_⟩
    show (ns.map V.int)[(k + (ns.length : Int)).toNat]? = _
    rw [List.getElem?_map, List.getElem?_eq_getElem this]; rfl
theorem Own.push {H : Hp} {l b : Addr} {as : List Addr} {T : HTab} {r : HRow} (o : Own H l as T) (hb : H b = some (.lst (r.map cellV))) (hn : b ∉ l :: as) : Own (upd H l (.lst ((as ++ [b]).map V.ref))) l (as ++ [b]) (T ++ [r]) := by
  have hl : b ≠ l := fun e => hn (e ▸ List.mem_cons_self)
  refine ⟨upd_same, by rw [List.length_append, List.length_append, o.len]; rfl, ?_, fun i c q e1 e2 => ?_⟩
  · rw [← List.cons_append]
    refine List.nodup_append.mpr ⟨o.nd, by simp, fun x h1 y h2 => ?_⟩
    have : y = b := by simpa using h2
    rw [this]
    intro e
    exact hn (e ▸ h1)
  · have hcl : c ≠ l := fun e => by
      rcases List.mem_append.mp (List.mem_of_getElem? e1) with z | z
      · exact (List.nodup_cons.mp o.nd).1 (e ▸ z)
      · have : c = b := by simpa using z
        exact hl (this ▸ e)
    rw [upd_ne hcl]
    by_cases hi : i < as.length
    · rw [List.getElem?_append_left hi] at e1
      rw [List.getElem?_append_left (by have := o.len; omega)] at e2
      exact o.row i c q e1 e2
    · have hlt := (List.getElem?_eq_some_iff.mp e1).1
      rw [List.length_append, List.length_singleton] at hlt
      have hii : i = as.length := by omega
      subst hii
      rw [List.getElem?_append_right (Nat.le_refl _), Nat.sub_self] at e1
      rw [o.len, List.getElem?_append_right (Nat.le_refl _), Nat.sub_self] at e2
      cases e1; cases e2
      exact hb


theorem cut_to (ns : List Int) (k : Nat) : cutV (ns.map V.int) none (some (k : Int)) = (ns.take k).map V.int := by
  unfold cutV
  rw [HT.sIx_nat, HT.sIx_none, List.length_map, List.drop_zero, ← List.map_take, Nat.sub_zero]
  congr 1
  by_cases h : k ≤ ns.length
  · rw [Nat.min_eq_left h]
  · rw [Nat.min_eq_right (by omega), List.take_of_length_le (Nat.le_refl _), List.take_of_length_le (by omega)]

theorem comp_range_by {n : Nat} {lo : Int} {own : Nat} {js : List Nat} {g : TG} {tt : TT} {te : TE} {σ : L2.St} {H : Hp} {Qf : List V → Hp → Prop} (Pv : Nat → List V → Hp → Prop) (h0 : Pv 0 [] H) (hz : n ≤ 1000)
    (hlen : ∀ i ys H2, Pv i ys H2 → ys.length ≤ i) (hd : ∀ ys H2, Pv n ys H2 → Qf ys H2)
    (hs : ∀ (i : Nat) ys H2, i < n → Pv i ys H2 → g (.int (lo + i)) (cst own js σ) H2 fun σ3 H4 => tt σ3 H4 fun b H5 => if b = true then te σ3 H5 fun y H6 => Pv (i + 1) (ys ++ [y]) H6 else Pv (i + 1) ys H5) :
    compRd own js g tt te σ (Itr lo n) H Qf := by
  refine comp_by (n := n) Pv h0 hz hlen (fun i ys H2 hi p => hi) (fun ys H2 p => ⟨Nat.le_refl n, hd ys H2 p⟩) ?_
  intro i ys H2 x H3 hi p y
  obtain ⟨e, y⟩ := y
  subst e y
  exact hs i ys _ hi p


end Hf

namespace Hf
open PySem PySem.Spec PyProof.Rows L2
/-- what stands ahead of the i-th, -1 ahead of the first -/
def prev (ns : List Int) : Nat → Int
  | 0 => -1
  | i + 1 => ns.getD i 0
def Rises (ns : List Int) (n : Int) : Prop := ∀ (i : Nat) x, ns[i]? = some x → prev ns i < x ∧ x < n
theorem Rises.lo {ns : List Int} {n : Int} (h : Rises ns n) : ∀ (i : Nat) x, ns[i]? = some x → 0 ≤ x
  | 0, x, e => by have : (-1 : Int) < x := (h 0 x e).1; omega
  | i + 1, x, e => by
    have hl := (List.getElem?_eq_some_iff.mp e).1
    have hy : ns[i]? = some (ns[i]'(by omega)) := List.getElem?_eq_getElem _
    have := Rises.lo h i _ hy
    have h1 : ns.getD i 0 < x := (h (i + 1) x e).1
    have e2 : ns.getD i 0 = ns[i]'(by omega) := by simp [List.getD, hy]
    omega
/-- every task that a row can do is told -/
def Told (r : HRow) (ts : List Int) : Prop := ∀ (j : Nat) c, r[j]? = some (some c) → (j : Int) ∈ ts
def Short (m : Int) (T : HTab) (hs ts : List Int) : Prop := Rises hs T.length ∧ Rises ts m ∧ ts.length < hs.length ∧ ∀ h ∈ hs, ∀ r, T[h.toNat]? = some r → Told r ts
section
variable {P : Program} {w : World} {K : PySem.W.Frag} {mg : Str → Option Value} {base : Heap}
def sp_rises (K : PySem.W.Frag) : Sp := fun vs H Q _ => ∃ (a : Addr) (n : Int) (ns : List Int), vs = [.ref a, .int n] ∧ IntsAt K H a ns ∧ ∀ b : Bool, (b = true ↔ Rises ns n) → Q (.bl b) H
theorem prev_at {ns : List Int} {i : Nat} {x : Int} (h : ns[i]? = some x) : prev ns (i + 1) = x := by unfold prev; simp [List.getD, h]
theorem ok_rises_within (B : Blt mg) (D : DefIs K mg "rises_within" s_rises_within ["numbers", "count"]) : Has P w K mg base 1 "rises_within" ["numbers", "count"] (sp_rises K) := by
  refine D.has sc_rises_within (fun vs H Q E h => ?_) fun f cdv A outer s H vs Q E hr h => ?_
  · obtain ⟨a, n, ns, rfl, _⟩ := h; rfl
  · obtain ⟨a, n, ns, rfl, ha, k⟩ := h
    refine ⟨_, pss_cons (ps_set (i := 2) sc_rises_within.nd rfl (Or.inl rfl) (pe_un un_neg pe_int))
      (pss_cons (ps_for PassesOwn.never rfl (pi_list (pv 0)) (pg_name (i := 3) sc_rises_within.nd rfl (Or.inl rfl)) (pss_cons (ps_if (pt_not (pt_chain op_lt op_lt (pv 2) (pv 3) (pv 1))) (pss_one (ps_ret pe_bl)) pss_nil)
        (pss_one (ps_set (i := 2) sc_rises_within.nd rfl (Or.inl rfl) (pv 3)))))
      (pss_one (ps_ret pe_bl))), ?_⟩
    refine ⟨_, rfl, _, rfl, a, rfl, ⟨_, ha⟩, ?_⟩
    refine for_list (xs := ns.map V.int) (fun i σ H2 => ∃ v3, σ = [some (.ref a), some (.int n), some (.int (prev ns i)), v3] ∧ H2 = H ∧ ∀ (j : Nat) x, j < i → ns[j]? = some x → prev ns j < x ∧ x < n) ⟨none, rfl, rfl, fun j x hj => absurd hj (Nat.not_lt_zero j)⟩ (fun i σ H2 _ q => by obtain ⟨_, _, rfl, _⟩ := q; exact ha) ?_ ?_
    · rintro i x σ H2 hx ⟨v3, rfl, rfl, hok⟩
      obtain ⟨y, hy, rfl⟩ := get_int hx
      have nxt : prev ns i < y → y < n → ∃ v3, [some (V.ref a), some (.int n), some (.int y), some (.int y)] = [some (.ref a), some (.int n), some (.int (prev ns (i + 1))), v3] ∧ H2 = H2 ∧ ∀ (j : Nat) x, j < i + 1 → ns[j]? = some x → prev ns j < x ∧ x < n := fun h1 h2 => by
        refine ⟨some (.int y), by rw [prev_at hy], rfl, fun j x hj e => ?_⟩
        by_cases z : j = i
        · subst z; rw [hy] at e; cases e; exact ⟨h1, h2⟩
        · exact hok j x (by omega) e
      refine ⟨_, rfl, _, rfl, _, _, rfl, rfl, _, rfl, ?_⟩
      refine ite2 (fun h1 => ?_) (fun h1 => ?_)
      · refine ⟨_, rfl, _, _, rfl, rfl, _, rfl, ?_⟩
        refine ite2 (fun h2 => ?_) (fun h2 => ?_)
        · refine k false (iffF fun z => ?_)
          have := bnot_false h2
          rw [decide_eq_true (z i y hy).2] at this; cases this
        · exact ⟨_, rfl, nxt (of_decide_eq_true h1) (of_decide_eq_true (bnot_true h2))⟩
      · exact ⟨false, rfl, k false (iffF fun z => h1 (decide_eq_true (z i y hy).1))⟩
    · rintro σ H2 ⟨v3, rfl, rfl, hok⟩
      refine k true (iffT fun j x e => hok j x ?_ e)
      have := (List.getElem?_eq_some_iff.mp e).1
      rw [List.length_map]; exact this
theorem ok_rising (B : Blt mg) (D : DefIs K mg "_law_rising" s_rising ["_law_row", "_law_most"]) : Has P w K mg base 1 "_law_rising" ["_law_row", "_law_most"] (sp_rises K) := by
  refine D.has sc_rising (fun vs H Q E h => ?_) fun f cdv A outer s H vs Q E hr h => ?_
  · obtain ⟨a, n, ns, rfl, _⟩ := h; rfl
  · obtain ⟨a, n, ns, rfl, ha, k⟩ := h
    refine ⟨_, pss_cons (ps_set (i := 2) sc_rising.nd rfl (Or.inl rfl) (pe_un un_neg pe_int))
      (pss_cons (ps_for PassesOwn.never rfl (pi_list (pv 0)) (pg_name (i := 3) sc_rising.nd rfl (Or.inl rfl)) (pss_cons (ps_if ((pw_or (pt_cmpR op_le (pv 3) (pv 2) (nomark _)) (pw_or1 (pt_cmpR op_ge (pv 3) (pv 1) (nomark _))))).pt (pss_one (ps_ret pe_bl)) pss_nil)
        (pss_one (ps_set (i := 2) sc_rising.nd rfl (Or.inl rfl) (pv 3)))))
      (pss_one (ps_ret pe_bl))), ?_⟩
    refine ⟨_, rfl, _, rfl, a, rfl, ⟨_, ha⟩, ?_⟩
    refine for_list (xs := ns.map V.int) (fun i σ H2 => ∃ v3, σ = [some (.ref a), some (.int n), some (.int (prev ns i)), v3] ∧ H2 = H ∧ ∀ (j : Nat) x, j < i → ns[j]? = some x → prev ns j < x ∧ x < n) ⟨none, rfl, rfl, fun j x hj => absurd hj (Nat.not_lt_zero j)⟩ (fun i σ H2 _ q => by obtain ⟨_, _, rfl, _⟩ := q; exact ha) ?_ ?_
    · rintro i x σ H2 hx ⟨v3, rfl, rfl, hok⟩
      obtain ⟨y, hy, rfl⟩ := get_int hx
      refine ⟨_, rfl, _, rfl, _, _, rfl, rfl, _, rfl, ?_⟩
      refine ite2 (fun h1 => ?_) (fun h1 => ?_)
      · refine k false (iffF fun z => ?_)
        have h1' : y ≤ prev ns i := of_decide_eq_true h1
        have := (z i y hy).1
        omega
      · have h1' : ¬ y ≤ prev ns i := fun z => h1 (decide_eq_true z)
        refine ⟨_, rfl, _, rfl, _, _, rfl, rfl, _, rfl, ?_⟩
        refine ite2 (fun h2 => ?_) (fun h2 => ?_)
        · refine k false (iffF fun z => ?_)
          have h2' : n ≤ y := of_decide_eq_true h2
          have := (z i y hy).2
          omega
        · have h2' : ¬ n ≤ y := fun z => h2 (decide_eq_true z)
          refine ⟨_, rfl, some (.int y), by rw [prev_at hy]; rfl, rfl, fun j x hj e => ?_⟩
          by_cases z : j = i
          · subst z; rw [hy] at e; cases e; exact ⟨by omega, by omega⟩
          · exact hok j x (by omega) e
    · rintro σ H2 ⟨v3, rfl, rfl, hok⟩
      refine k true (iffT fun j x e => hok j x ?_ e)
      have := (List.getElem?_eq_some_iff.mp e).1
      rw [List.length_map]; exact this

open Classical in
def sp_all_told (K : PySem.W.Frag) : Sp := fun vs H Q _ => ∃ (a c : Addr) (r : HRow) (ts : List Int), vs = [.ref a, .ref c] ∧ RowAt K H a r ∧ IntsAt K H c ts ∧ r.length ≤ 1000 ∧ ∀ (b : Bool) H', (b = true ↔ Told r ts) → Same H H' → Q (.bl b) H'
open Classical in
theorem ok_all_told (B : Blt mg) (D : DefIs K mg "all_told" s_all_told ["row", "tasks"]) : Has P w K mg base 1 "all_told" ["row", "tasks"] (sp_all_told K) := by
  refine D.has sc_all_told (fun vs H Q E h => ?_) fun f cdv A outer s H vs Q E hr h => ?_
  · obtain ⟨a, c, r, ts, rfl, _⟩ := h; rfl
  · obtain ⟨a, c, r, ts, rfl, ha, hc, hz, k⟩ := h
    refine ⟨_, pss_one (ps_ret (pe_callB (call_all_bl rfl) (by rfl) B.all boot_all (pa_cons (pe_comp (sc := defScope s_all_told) (XN := ["row", "tasks"]) (own := ["task", "cost"]) (fr := ["tasks"]) (js := [1]) rfl rfl rfl (⟨rfl, by decide +kernel, by decide +kernel, by decide +kernel, rfl, by decide +kernel⟩)
      (pi_enum (by rfl) B.enumerate (pa_cons (pv 0) pa_nil)) (fun _ _ _ _ _ => (pg_tupK (K := K) (n := 2) rfl rfl (pgs_cons (pg_name (i := 0) (show List.Nodup (["task", "cost", "tasks"] : List Str) by decide +kernel) rfl (Or.inl rfl)) (pgs_cons (pg_name (i := 1) (show List.Nodup (["task", "cost", "tasks"] : List Str) by decide +kernel) rfl (Or.inl rfl)) pgs_nil)))) (fun _ _ _ _ _ => pts_nil)
      (fun _ _ _ _ _ => (pe_or (pe_cmpR op_isN (pv 1) pe_non (nomark _)) (pe_one (pe_cmpR (op_in_seqK (K := K) rfl) (pv 0) (pv 2) (by with_unfolding_all rfl)))))) pa_nil))), ?_⟩
    refine ⟨_, rfl, a, rfl, ⟨_, ha⟩, ?_⟩
    refine comp_enum (K := K) (xs := r.map cellV) (fun i => some (.bl (decide (∀ c, r[i]? = some (some c) → (i : Int) ∈ ts)))) ha (by rw [List.length_map]; exact hz) ?_ ?_
    · intro H2 s2 D' hD'
      refine ⟨D', _, rfl, SqL.of (by rw [fm_bl]; exact upd_same), k _ _ ?_ (s2.upd hD')⟩
      rw [all_id]
      constructor
      · intro z j c e
        have hj := (List.getElem?_eq_some_iff.mp e).1
        exact of_decide_eq_true (z j (by simpa using hj)) c e
      · intro z i _
        exact decide_eq_true fun c e => z i c e
    · intro i ys H2 x p N hx s2 hp hN
      obtain ⟨c0, hc0, rfl⟩ := get_cell hx
      refine ⟨p, _, rfl, hp, rfl, _, _, rfl, _, _, rfl, rfl, ?_⟩
      refine ⟨_, rfl, rfl, _, rfl, ?_⟩
      have e1 : ∀ b : Bool, (b = true ↔ ∀ c, r[i]? = some (some c) → (i : Int) ∈ ts) → N (ys ++ [.bl b]) H2 := fun b hb => by
        have := hN H2 s2
        have e : decide (∀ c, r[i]? = some (some c) → (i : Int) ∈ ts) = b := by
          rw [Bool.eq_iff_iff, decide_eq_true_iff]; exact hb.symm
        rw [e] at this
        exact this
      cases c0 with
      | none => exact iteT (e1 true (iffT fun c z => by rw [hc0] at z; cases z))
      | some c1 =>
        refine iteF ⟨_, rfl, _, rfl, c, _, rfl, .inl (s2.seq hc), rfl, ints_flat ts, ?_⟩
        rw [inV_int]
        exact e1 _ (by
          rw [show (if false = true then !decide ((i : Int) ∈ ts) else decide ((i : Int) ∈ ts)) = decide ((i : Int) ∈ ts) from rfl, decide_eq_true_iff]
          exact ⟨fun z c _ => z, fun z => z c1 hc0⟩)
def sp_shows_short (K : PySem.W.Frag) : Sp := fun vs H Q _ => ∃ (m : Int) (a c d : Addr) (T : HTab) (hs ts : List Int), vs = [.int m, .ref a, .ref c, .ref d] ∧ TabAt K H a T ∧ IntsAt K H c hs ∧ IntsAt K H d ts ∧ Wide m T ∧ m ≤ 1000 ∧ hs.length ≤ 1000 ∧
  ∀ (b : Bool) H', (b = true ↔ Short m T hs ts) → Same H H' → Q (.bl b) H'
open Classical in
theorem ok_shows_short (B : Blt mg) (G1 : Has P w K mg base 1 "check_table" ["many", "rows"] (sp_check_table K)) (G2 : Has P w K mg base 1 "rises_within" ["numbers", "count"] (sp_rises K)) (G3 : Has P w K mg base 1 "all_told" ["row", "tasks"] (sp_all_told K))
    (D : DefIs K mg "shows_short" s_shows_short ["many", "rows", "hands", "tasks"]) : Has P w K mg base 2 "shows_short" ["many", "rows", "hands", "tasks"] (sp_shows_short K) := by
  refine D.has sc_shows_short (fun vs H Q E h => ?_) fun f cdv A outer s H vs Q E hr h => ?_
  · obtain ⟨m, a, c, d, T, hs, ts, rfl, _⟩ := h; rfl
  · obtain ⟨m, a, c, d, T, hs, ts, rfl, hT, hc, hd, hw, hm, hz, k⟩ := h
    obtain ⟨as, ha, hl, hrow⟩ := id hT
    refine ⟨_, pss_cons (ps_expr (pe_fn G1 hr (by rfl) (pa_cons (pv 0) (pa_cons (pv 1) pa_nil))))
      (pss_cons (ps_if ((pw_or (pt_not (pt_val (pe_fn G2 hr (by rfl) (pa_cons (pv 2) (pa_cons (pe_callB call_len_seq (by rfl) B.len boot_len (pa_cons (pv 1) pa_nil)) pa_nil))))) (pw_or1 (pt_not (pt_val (pe_fn G2 hr (by rfl) (pa_cons (pv 3) (pa_cons (pv 0) pa_nil)))))))).pt (pss_one (ps_ret pe_bl)) pss_nil)
      (pss_one (ps_ret (pe_and (pe_cmpR op_lt (pe_callB call_len_seq (by rfl) B.len boot_len (pa_cons (pv 3) pa_nil)) (pe_callB call_len_seq (by rfl) B.len boot_len (pa_cons (pv 2) pa_nil)) (nomark _)) (pe_one (pe_callB (call_all_bl rfl) (by rfl) B.all boot_all (pa_cons (pe_comp (sc := defScope s_shows_short) (XN := ["many", "rows", "hands", "tasks"]) (own := ["hand"]) (fr := ["tasks", "rows"]) (js := [3, 1]) rfl rfl rfl (⟨rfl, by decide +kernel, by decide +kernel, by decide +kernel, rfl, by decide +kernel⟩) (pi_list (pv 2)) (fun _ _ _ _ _ => (pg_name (i := 0) (show List.Nodup (["hand", "tasks", "rows"] : List Str) by decide +kernel) rfl (Or.inl rfl))) (fun _ _ _ _ _ => pts_nil) (fun _ _ _ _ _ => (pe_fn G3 hr (by rfl) (pa_cons (pe_ix (ix_listK (K := K) rfl) (pv 2) (pv 0) (fun _ _ => rfl)) (pa_cons (pv 1) pa_nil))))) pa_nil))))))), ?_⟩
    refine ⟨_, rfl, _, rfl, m, a, T, rfl, hT, hw, ?_⟩
    refine ⟨_, rfl, _, rfl, a, _, rfl, .inl ha, c, _, hs, rfl, hc, fun b1 e1 => ⟨b1, rfl, ?_⟩⟩
    rw [List.length_map, hl] at e1
    refine ite2 (fun h1 => ?_) (fun h1 => ?_)
    · exact k false H (iffF fun z => by rw [bnot_false h1] at e1; exact Bool.false_ne_true (e1.mpr z.1)) (Same.refl H)
    have hR := e1.mp (bnot_true h1)
    refine ⟨_, rfl, _, rfl, d, m, ts, rfl, hd, fun b2 e2 => ⟨b2, rfl, ?_⟩⟩
    refine ite2 (fun h2 => ?_) (fun h2 => ?_)
    · exact k false H (iffF fun z => by rw [bnot_false h2] at e2; exact Bool.false_ne_true (e2.mpr z.2.1)) (Same.refl H)
    have hR2 := e2.mp (bnot_true h2)
    refine ⟨_, rfl, d, _, rfl, .inl hd, _, rfl, c, _, rfl, .inl hc, _, _, rfl, rfl, _, rfl, ?_⟩
    refine ite2 (fun h3 => ?_) (fun h3 => ?_)
    · have h3' : ((ts.map V.int).length : Int) < ((hs.map V.int).length : Int) := of_decide_eq_true h3
      rw [List.length_map, List.length_map] at h3'
      refine ⟨_, rfl, c, rfl, ⟨_, hc⟩, ?_⟩
      refine comp_list (K := K) (xs := hs.map V.int) (fun i => some (.bl (decide (∀ h r, hs[i]? = some h → T[h.toNat]? = some r → Told r ts)))) hc (by rw [List.length_map]; exact hz) ?_ ?_
      · intro H2 s2 D' hD'
        refine ⟨D', _, rfl, SqL.of (by rw [fm_bl]; exact upd_same), k _ _ ?_ (s2.upd hD')⟩
        rw [all_id]
        constructor
        · intro z
          refine ⟨hR, hR2, by omega, fun h hh r e => ?_⟩
          obtain ⟨i, hi, ei⟩ := List.mem_iff_getElem.mp hh
          exact of_decide_eq_true (z i (by simpa using hi)) h r (by rw [← ei]; exact List.getElem?_eq_getElem hi) e
        · intro z i _
          exact decide_eq_true fun h r e1 e2 => z.2.2.2 h (List.mem_of_getElem? e1) r e2
      · intro i ys H2 x N hx s2 hN
        obtain ⟨h, hh, rfl⟩ := get_int hx
        have h0 := hR.lo i h hh
        have h1 := (hR i h hh).2
        have hhT : h.toNat < T.length := by omega
        have hT' : T[h.toNat]? = some T[h.toNat] := List.getElem?_eq_getElem hhT
        generalize T[h.toNat] = r at hT'
        have has : as[h.toNat]? = some (as[h.toNat]'(by omega)) := List.getElem?_eq_getElem _
        generalize as[h.toNat]'(by omega) = b at has
        have hwr := hw _ r hT'
        refine ⟨_, rfl, _, rfl, a, _, h, .ref b, rfl, rfl, s2.seq ha, atI_int h0 (by rw [List.getElem?_map, has]; rfl), _, rfl, b, d, r, ts, rfl, s2.seq (hrow _ b r has hT'), s2.seq hd, by omega, fun b3 H3 e3 s3 => ?_⟩
        have := hN H3 (s2.trans s3)
        have e : decide (∀ h r, hs[i]? = some h → T[h.toNat]? = some r → Told r ts) = b3 := by
          rw [Bool.eq_iff_iff, decide_eq_true_iff, e3]
          exact ⟨fun z => z h r hh hT', fun z h' r' e1 e2 => by rw [hh] at e1; cases e1; rw [hT'] at e2; cases e2; exact z⟩
        rw [e] at this
        exact this
    · refine k false H (iffF fun z => h3 (decide_eq_true ?_)) (Same.refl H)
      have := z.2.2.1
      rw [List.length_map, List.length_map]; omega
end

end Hf

namespace Hf
open PySem PySem.Spec PyProof.Rows L2
section
variable {P : Program} {w : World} {K : PySem.W.Frag} {mg : Str → Option Value} {base : Heap}
theorem ok_short_shown (B : Blt mg) (G2 : Has P w K mg base 1 "_law_rising" ["_law_row", "_law_most"] (sp_rises K)) (D : DefIs K mg "_law_short_shown" s_short_shown ["_law_many", "_law_rows", "_law_hands", "_law_tasks"]) :
    Has P w K mg base 2 "_law_short_shown" ["_law_many", "_law_rows", "_law_hands", "_law_tasks"] (sp_shows_short K) := by
  refine D.has sc_short_shown (fun vs H Q E h => ?_) fun f cdv A outer s H vs Q E hr h => ?_
  · obtain ⟨m, a, c, d, T, hs, ts, rfl, _⟩ := h; rfl
  · obtain ⟨m, a, c, d, T, hs, ts, rfl, hT, hc, hd, hw, hm, hz, k⟩ := h
    obtain ⟨as, ha, hl, hrow⟩ := id hT
    have kk : ∀ b : Bool, (b = true ↔ Short m T hs ts) → Q (.bl b) H := fun b e => k b H e (Same.refl H)
    refine ⟨_, pss_cons (ps_if ((pw_or (pt_not (pt_val (pe_fn G2 hr (by rfl) (pa_cons (pv 2) (pa_cons (pe_callB call_len_seq (by rfl) B.len boot_len (pa_cons (pv 1) pa_nil)) pa_nil))))) (pw_or1 (pt_not (pt_val (pe_fn G2 hr (by rfl) (pa_cons (pv 3) (pa_cons (pv 0) pa_nil)))))))).pt (pss_one (ps_ret pe_bl)) pss_nil)
      (pss_cons (ps_for PassesOwn.never rfl (pi_list (pv 2)) (pg_name (i := 4) sc_short_shown.nd rfl (Or.inl rfl)) (pss_one (ps_for PassesOwn.never rfl (pi_range1 (by rfl) B.range (pa_cons (pv 0) pa_nil)) (pg_name (i := 5) sc_short_shown.nd rfl (Or.inl rfl)) (pss_one (ps_if ((pw_and (pt_cmpR op_notN (pe_ix ix_list (pe_ix ix_list (pv 1) (pv 4) (fun _ _ => rfl)) (pv 5) (fun _ _ => rfl)) pe_non (nomark _)) (pw_and1 (pt_cmpR op_notIn_seq (pv 5) (pv 3) (by with_unfolding_all rfl))))).pt (pss_one (ps_ret pe_bl)) pss_nil)))))
      (pss_one (ps_ret (pe_cmpR op_lt (pe_callB call_len_seq (by rfl) B.len boot_len (pa_cons (pv 3) pa_nil)) (pe_callB call_len_seq (by rfl) B.len boot_len (pa_cons (pv 2) pa_nil)) (nomark _))))), ?_⟩
    refine ⟨_, rfl, _, rfl, a, _, rfl, .inl ha, c, _, hs, rfl, hc, fun b1 e1 => ⟨b1, rfl, ?_⟩⟩
    rw [List.length_map, hl] at e1
    refine ite2 (fun h1 => ?_) (fun h1 => ?_)
    · exact kk false (iffF fun z => by rw [bnot_false h1] at e1; exact Bool.false_ne_true (e1.mpr z.1))
    have hR := e1.mp (bnot_true h1)
    refine ⟨_, rfl, _, rfl, d, m, ts, rfl, hd, fun b2 e2 => ⟨b2, rfl, ?_⟩⟩
    refine ite2 (fun h2 => ?_) (fun h2 => ?_)
    · exact kk false (iffF fun z => by rw [bnot_false h2] at e2; exact Bool.false_ne_true (e2.mpr z.2.1))
    have hR2 := e2.mp (bnot_true h2)
    refine ⟨_, rfl, c, rfl, ⟨_, hc⟩, ?_⟩
    refine for_list (xs := hs.map V.int) (fun i σ H2 => ∃ v4 v5 : Option V, σ = [some (.int m), some (.ref a), some (.ref c), some (.ref d), v4, v5] ∧ H2 = H ∧ ∀ (j : Nat) h r, j < i → hs[j]? = some h → T[h.toNat]? = some r → Told r ts) ⟨none, none, rfl, rfl, fun j h r hj => absurd hj (Nat.not_lt_zero j)⟩ (fun i σ H2 _ q => by obtain ⟨_, _, _, rfl, _⟩ := q; exact hc) ?_ ?_
    · rintro i x σ H2 hx ⟨v4, v5, rfl, rfl, hok⟩
      obtain ⟨h, hh, rfl⟩ := get_int hx
      have h0 := hR.lo i h hh
      have h1 := (hR i h hh).2
      have hhT : h.toNat < T.length := by omega
      have hT' : T[h.toNat]? = some T[h.toNat] := List.getElem?_eq_getElem hhT
      generalize T[h.toNat] = r at hT'
      have has : as[h.toNat]? = some (as[h.toNat]'(by omega)) := List.getElem?_eq_getElem _
      generalize as[h.toNat]'(by omega) = b at has
      have hwr := hw _ r hT'
      have hrb := hrow _ b r has hT'
      have atb : atI (as.map V.ref) h = some (.ref b) := atI_int h0 (by rw [List.getElem?_map, has]; rfl)
      refine ⟨_, rfl, m, rfl, by omega, by omega, ?_⟩
      refine for_range (fun i2 σ H3 => ∃ v5 : Option V, σ = [some (.int m), some (.ref a), some (.ref c), some (.ref d), some (.int h), v5] ∧ H3 = H2 ∧ ∀ (j : Nat) c, j < i2 → r[j]? = some (some c) → (j : Int) ∈ ts) ⟨v5, rfl, rfl, fun j c hj => absurd hj (Nat.not_lt_zero j)⟩ ?_ ?_
      · rintro i2 σ H3 hi2 ⟨w5, rfl, rfl, hk2⟩
        have hrj : r[i2]? = some (r[i2]'(by omega)) := List.getElem?_eq_getElem _
        generalize r[i2]'(by omega) = cj at hrj
        have atc : atI (r.map cellV) (0 + (i2 : Int)) = some (cellV cj) := by rw [Int.zero_add]; exact atI_nat (by rw [List.getElem?_map, hrj]; rfl)
        refine ⟨_, rfl, _, rfl, a, _, _, .ref b, rfl, rfl, ha, atb, _, rfl, b, _, _, cellV cj, rfl, rfl, hrb, atc, rfl, _, rfl, ?_⟩
        cases cj with
        | none =>
          refine iteF ⟨_, rfl, rfl, fun j c' hj e => ?_⟩
          by_cases z : j = i2
          · subst z; rw [hrj] at e; cases e
          · exact hk2 j c' (by omega) e
        | some c1 =>
          refine iteT ⟨_, rfl, _, rfl, d, _, rfl, .inl hd, rfl, ints_flat ts, _, rfl, ?_⟩
          rw [Int.zero_add, inV_int]
          refine ite2 (fun h5 => ?_) (fun h5 => ?_)
          · refine kk false (iffF fun z => ?_)
            have := bnot_false h5
            rw [decide_eq_true (z.2.2.2 h (List.mem_of_getElem? hh) r hT' i2 c1 hrj)] at this
            cases this
          · refine ⟨_, rfl, rfl, fun j c' hj e => ?_⟩
            by_cases z : j = i2
            · subst z; exact of_decide_eq_true (bnot_true h5)
            · exact hk2 j c' (by omega) e
      · rintro σ H3 ⟨w5, rfl, rfl, hk2⟩
        refine ⟨_, _, rfl, rfl, fun j h' r' hj e1 e2 => ?_⟩
        by_cases z : j = i
        · subst z
          rw [hh] at e1; cases e1
          rw [hT'] at e2; cases e2
          exact fun q c' e => hk2 q c' (by have := (List.getElem?_eq_some_iff.mp e).1; omega) e
        · exact hok j h' r' (by omega) e1 e2
    · rintro σ H2 ⟨v4, v5, rfl, rfl, hok⟩
      refine ⟨_, rfl, d, _, rfl, .inl hd, _, rfl, c, _, rfl, .inl hc, _, _, rfl, rfl, kk _ ?_⟩
      rw [decide_eq_true_iff, List.length_map, List.length_map]
      constructor
      · intro z
        refine ⟨hR, hR2, by omega, fun h hh r e => ?_⟩
        obtain ⟨i, hi, ei⟩ := List.mem_iff_getElem.mp hh
        exact hok i h r (by rw [List.length_map]; exact hi) (by rw [← ei]; exact List.getElem?_eq_getElem hi) e
      · intro z
        have := z.2.2.1
        omega
end

end Hf

namespace Hf
open PySem PySem.Spec PyProof.Rows L2
theorem map_some (ns : List Int) : (ns.map some).map cellV = ns.map V.int := by rw [List.map_map]; rfl
abbrev NL : List Str := ["_law_script", "_law_seed", "_law_many", "_law_count", "_law_hands", "_law_tasks", "_law_rows", "_law_hand", "_law_row", "_law_task", "_law_cell", "_law_cost", "_law_way", "_law_spot", "_law_untold", "_law_handed", "_law_found"]
section
variable {P : Program} {w : World} {K : PySem.W.Frag} {mg : Str → Option Value} {base : Heap}
def sp_spoilt (K : PySem.W.Frag) : Sp := fun vs H Q _ => ∃ (a b q : Addr) (hs ts : List Int) (way spot n m : Int), vs = [.ref a, .ref b, .int way, .int spot, .ref q] ∧ H a = some (.lst (hs.map V.int)) ∧ H b = some (.lst (ts.map V.int)) ∧ H q = some (.tup [.int n, .int m]) ∧ hs.length ≤ 20 ∧ ts.length ≤ 20 ∧ 1 ≤ m ∧ m ≤ 7 ∧ (∀ t ∈ ts, 0 ≤ t ∧ t < m) ∧
  ∀ (p l1 l2 : Addr) (us vs : List Int) H', Same H H' → H' l1 = some (.lst (us.map V.int)) → H' l2 = some (.lst (vs.map V.int)) → us.length ≤ 100 → vs.length ≤ 100 → H' p = some (.tup [.ref l1, .ref l2]) → Q (.ref p) H'
/-- the defs that the law calls -/
structure Defs (P : Program) (w : World) (K : PySem.W.Frag) (mg : Str → Option Value) (base : Heap) : Prop where
  at_ : Has P w K mg base 1 "_law_at" ["_law_script", "_law_k"] (sp_at K)
  draw : Has P w K mg base 1 "_law_draw" ["_law_number", "_law_prime", "_law_many"] sp_draw
  copies : Has P w K mg base 1 "_law_copies" ["_law_rows"] (sp_copies K)
  same : Has P w K mg base 4 "_law_same_table" ["_law_found", "_law_rows"] (sp_same_table K)
  shown : Has P w K mg base 2 "_law_short_shown" ["_law_many", "_law_rows", "_law_hands", "_law_tasks"] (sp_shows_short K)
  spoilt : Has P w K mg base 1 "_law_spoilt" ["_law_hands", "_law_tasks", "_law_way", "_law_spot", "_law_most"] (sp_spoilt K)
  shows : Has P w K mg base 2 "shows_short" ["many", "rows", "hands", "tasks"] (sp_shows_short K)
theorem law13 (B : Blt mg) (G : Defs P w K mg base) {f : Addr} {cdv : Value} {A : Around} {outer : List Env} {s : Shared} {H : Hp} {Q : VK} {E : XK} {nx : L2.St → Hp → Prop} (hr : Room 4 (A.deeper (envOfC "law" (defScope s_law) s.heap.objs.size f cdv))) (k : ∀ H', Q (.bl true) H') :
    ∃ t, PSs (cxOf CX0 P w K mg base NL "law" (defScope s_law) f cdv A outer s H E).nox ((defBody s_law).drop 13) t ∧
      ∀ (m cnt way spot : Int) (rl al bl : Addr) (as : List Addr) (T : HTab) (hs ts : List Int) (v0 v1 v7 v8 v9 v10 v11 v14 v15 v16 : Option V) (H1 : Hp), Own H1 rl as T → Wide m T → H1 al = some (.lst (hs.map V.int)) → H1 bl = some (.lst (ts.map V.int)) → hs.length ≤ 20 → ts.length ≤ 20 → 1 ≤ m → m ≤ 7 → T.length ≤ 40 → (∀ t ∈ ts, 0 ≤ t ∧ t < m) →
        t { nx := nx, rt := Q } [v0, v1, some (.int m), some (.int cnt), some (.ref al), some (.ref bl), some (.ref rl), v7, v8, v9, v10, v11, some (.int way), some (.int spot), v14, v15, v16] H1 := by
  refine ⟨_, pss_cons (ps_asg (pe_fn G.spoilt (hr.mono (by decide)) (by rfl) (pa_cons (pv 4) (pa_cons (pv 5) (pa_cons (pv 12) (pa_cons (pv 13) (pa_cons (pe_tup (pa_cons (pv 3) (pa_cons (pv 2) pa_nil))) pa_nil)))))) (pg_tup rfl (pgs_cons (pg_name (i := 4) sc_law.nd rfl (Or.inl rfl)) (pgs_cons (pg_name (i := 5) sc_law.nd rfl (Or.inr rfl)) pgs_nil))))
    (pss_cons (ps_set (i := 15) sc_law.nd rfl (Or.inl rfl) (pe_lst (pa_cons (pe_fn G.copies (hr.mono (by decide)) (by rfl) (pa_cons (pv 6) pa_nil)) (pa_cons (pe_callTy call_list_of (by rfl) B.list boot_list (pa_cons (pv 4) pa_nil)) (pa_cons (pe_callTy call_list_of (by rfl) B.list boot_list (pa_cons (pv 5) pa_nil)) pa_nil)))))
    (pss_cons (ps_set (i := 16) sc_law.nd rfl (Or.inl rfl) (pe_fn G.shows (hr.mono (by decide)) (by rfl) (pa_cons (pv 2) (pa_cons (pe_ix ix_list (pv 15) pe_int (fun _ _ => rfl)) (pa_cons (pe_ix ix_list (pv 15) pe_int (fun _ _ => rfl)) (pa_cons (pe_ix ix_list (pv 15) pe_int (fun _ _ => rfl)) pa_nil))))))
    (pss_cons (ps_if ((pw_or (pt_not (pt_val (pe_fn G.same (hr.mono (by decide)) (by rfl) (pa_cons (pe_ix ix_list (pv 15) pe_int (fun _ _ => rfl)) (pa_cons (pv 6) pa_nil))))) (pw_or1 (pt_not (pt_val (pe_fn G.same (hr.mono (by decide)) (by rfl) (pa_cons (pe_slice sl_list (pv 15) (po_some pe_int) po_none) (pa_cons (pe_lst (pa_cons (pv 4) (pa_cons (pv 5) pa_nil))) pa_nil)))))))).pt (pss_one (ps_ret pe_bl)) pss_nil)
    (pss_one (ps_ret (pe_and (pe_callB call_isi (by rfl) B.isinstance boot_isinstance (pa_cons (pv 16) (pa_cons (pe_ty (by rfl) B.bool boot_bool) pa_nil))) (pe_one (pe_cmpR op_eq (pv 16) (pe_fn G.shown (hr.mono (by decide)) (by rfl) (pa_cons (pv 2) (pa_cons (pv 6) (pa_cons (pv 4) (pa_cons (pv 5) pa_nil))))) (nomark _))))))))), ?_⟩
  intro m cnt way spot rl al bl as T hs ts v0 v1 v7 v8 v9 v10 v11 v14 v15 v16 H1 o1 hw hal hbl hhl htl hm1 hm2 hT htm
  refine ⟨_, rfl, _, rfl, _, rfl, _, rfl, _, rfl, _, rfl, by show 2 ≤ sizeLine; decide, fun q0 hq0 => ?_⟩
  have s0 : Same H1 (upd H1 q0 (.tup [.int cnt, .int m])) := (Same.refl H1).upd hq0
  have a0 : (upd H1 q0 (.tup [.int cnt, .int m])) q0 = some (.tup [.int cnt, .int m]) := upd_same
  generalize upd H1 q0 (.tup [.int cnt, .int m]) = H1' at s0 a0
  refine ⟨al, bl, q0, hs, ts, way, spot, cnt, m, rfl, s0 _ _ hal, s0 _ _ hbl, a0, hhl, htl, hm1, hm2, htm, fun p tl pl us ps H2' sp htk hpr hul hpl hp => ?_⟩
  refine ⟨p, _, rfl, SqT.of hp, rfl, _, _, rfl, _, _, rfl, rfl, ?_⟩
  have ow := o1.same (s0.trans sp)
  refine ⟨_, rfl, rl, T, rfl, ow.tab, by omega, fun l1 as1 H2 s2 o2 fr2 => ?_⟩
  refine ⟨_, rfl, tl, _, rfl, .inl (SqL.of (s2 _ _ htk)), fun l2 hl2 => ?_⟩
  have s3 : Same H2 (upd H2 l2 (.lst (us.map V.int))) := (Same.refl H2).upd hl2
  refine ⟨_, rfl, pl, _, rfl, .inl (SqL.of (s3 _ _ (s2 _ _ hpr))), fun l3 hl3 => ?_⟩
  have s4 : Same (upd H2 l2 (.lst (us.map V.int))) (upd (upd H2 l2 (.lst (us.map V.int))) l3 (.lst (ps.map V.int))) := (Same.refl _).upd hl3
  refine ⟨by show 3 ≤ sizeLine; decide, fun hd hhd => ?_⟩
  generalize hH5 : upd (upd (upd H2 l2 (.lst (us.map V.int))) l3 (.lst (ps.map V.int))) hd (.lst [.ref l1, .ref l2, .ref l3]) = H5
  have s5 : Same (upd (upd H2 l2 (.lst (us.map V.int))) l3 (.lst (ps.map V.int))) H5 := hH5 ▸ (Same.refl _).upd hhd
  have hhd5 : H5 hd = some (.lst [.ref l1, .ref l2, .ref l3]) := by rw [← hH5]; exact upd_same
  have hl35 : H5 l3 = some (.lst (ps.map V.int)) := s5 _ _ upd_same
  have hl25 : H5 l2 = some (.lst (us.map V.int)) := s5 _ _ (s4 _ _ upd_same)
  have s25 := (s3.trans s4).trans s5
  have o5 := o2.same s25
  have ow5 := ow.same (s2.trans s25)
  have htk5 := (s2.trans s25) _ _ htk
  have hpr5 := (s2.trans s25) _ _ hpr
  refine ⟨_, rfl, _, rfl, hd, _, 0, .ref l1, rfl, rfl, SqL.of hhd5, rfl, _, rfl, hd, _, 1, .ref l2, rfl, rfl, SqL.of hhd5, rfl, _, rfl, hd, _, 2, .ref l3, rfl, rfl, SqL.of hhd5, rfl,
    m, l1, l2, l3, T, us, ps, rfl, o5.tab, SqL.of hl25, SqL.of hl35, hw, by omega, by omega, fun b H6 e6 s6 => ?_⟩
  have o6 := o5.same s6
  have ow6 := ow5.same s6
  have hrows : ∀ (i : Nat) c r, as1[i]? = some c → T[i]? = some r → H6 c = some (.lst (r.map cellV)) ∧ r.length ≤ 1000 := fun i c r e1 e2 => ⟨o6.row i c r e1 e2, by have := hw i r e2; omega⟩
  refine ⟨_, rfl, hd, _, 0, .ref l1, rfl, rfl, SqL.of (s6 _ _ hhd5), rfl, _, rfl, l1, rl, as1, T, T, rfl, o6.lst, o6.len, hrows, ow6.tab, by omega, fun t ht => ⟨t, rfl, ?_⟩⟩
  have et : t = true := ht.mpr rfl
  subst et
  refine ⟨_, rfl, 1, rfl, hd, _, rfl, SqL.of (s6 _ _ hhd5), fun q hq => ?_⟩
  have s7 : Same H6 (upd H6 q (.lst (cutV [.ref l1, .ref l2, .ref l3] (some 1) none))) := (Same.refl H6).upd hq
  refine ⟨_, rfl, _, rfl, by show 2 ≤ sizeLine; decide, fun q2 hq2 => ?_⟩
  generalize hH8 : upd (upd H6 q (.lst (cutV [.ref l1, .ref l2, .ref l3] (some 1) none))) q2 (.lst [.ref tl, .ref pl]) = H8
  have s8 : Same (upd H6 q (.lst (cutV [.ref l1, .ref l2, .ref l3] (some 1) none))) H8 := hH8 ▸ (Same.refl _).upd hq2
  have hq28 : H8 q2 = some (.lst [.ref tl, .ref pl]) := by rw [← hH8]; exact upd_same
  have hq8 : H8 q = some (.lst ([l2, l3].map V.ref)) := s8 _ _ upd_same
  have s68 := s7.trans s8
  have ow8 := ow6.same s68
  have htk8 := s68 _ _ (s6 _ _ htk5)
  have hpr8 := s68 _ _ (s6 _ _ hpr5)
  refine ⟨q, q2, [l2, l3], [us.map some, ps.map some], [us.map some, ps.map some], rfl, hq8, rfl, ?_, ⟨[tl, pl], SqL.of hq28, rfl, ?_⟩, by show 2 ≤ 1000; decide, fun t ht => ⟨t, rfl, ?_⟩⟩
  · intro i c r e1 e2
    match i, e1, e2 with
    | 0, e1, e2 => cases e1; cases e2; exact ⟨by rw [map_some]; exact s68 _ _ (s6 _ _ hl25), by rw [List.length_map]; omega⟩
    | 1, e1, e2 => cases e1; cases e2; exact ⟨by rw [map_some]; exact s68 _ _ (s6 _ _ hl35), by rw [List.length_map]; omega⟩
    | n + 2, e1, _ => simp at e1
  · intro i c r e1 e2
    match i, e1, e2 with
    | 0, e1, e2 => cases e1; cases e2; exact SqL.of (by rw [map_some]; exact htk8)
    | 1, e1, e2 => cases e1; cases e2; exact SqL.of (by rw [map_some]; exact hpr8)
    | n + 2, e1, _ => simp at e1
  have et : t = true := ht.mpr rfl
  subst et
  refine ⟨_, rfl, _, _, _, true, rfl, .bl _, by rfl, _, rfl, iteT ⟨_, rfl, _, rfl, _, rfl, _, rfl, _, rfl, m, rl, tl, pl, T, us, ps, rfl, ow8.tab, SqL.of htk8, SqL.of hpr8, hw, by omega, by omega, fun b2 H9 e9 s9 => ⟨rfl, ?_⟩⟩⟩
  have eb : b = b2 := by
    rw [Bool.eq_iff_iff, e6, e9]
  subst eb
  rw [decide_eq_true rfl]
  exact k _
end

end Hf

namespace Hf
open PySem PySem.Spec PyProof.Rows L2
theorem boot_sorted3 : bootBuiltins "sorted" = some (.builtin "sorted") := by decide +kernel
theorem cut_intsM (ns : List Int) (lo hi : Option Int) : ∃ qs : List Int, cutV (ns.map V.int) lo hi = qs.map V.int ∧ qs.length ≤ ns.length ∧ ∀ x ∈ qs, x ∈ ns := by
  unfold cutV
  rw [← List.map_drop, ← List.map_take]
  refine ⟨_, rfl, ?_, fun x hx => List.mem_of_mem_drop (List.mem_of_mem_take hx)⟩
  rw [List.length_take, List.length_drop]
  omega
theorem cat_ints (us vs : List Int) : us.map V.int ++ vs.map V.int = (us ++ vs).map V.int := by rw [List.map_append]
abbrev NS : List Str := ["_law_hands", "_law_tasks", "_law_way", "_law_spot", "_law_most"]
/-- the two lists and the pair, as they stand on the way -/
structure SpI (H H1 : Hp) (a b q : Addr) (hs ts : List Int) (n m : Int) : Prop where
  sm : Same H H1
  ha : H1 a = some (.lst (hs.map V.int))
  hb : H1 b = some (.lst (ts.map V.int))
  hq : H1 q = some (.tup [.int n, .int m])
theorem SpI.same {H H1 H2 : Hp} {a b q : Addr} {hs ts : List Int} {n m : Int} (x : SpI H H1 a b q hs ts n m) (e : Same H1 H2) : SpI H H2 a b q hs ts n m := ⟨x.sm.trans e, e _ _ x.ha, e _ _ x.hb, e _ _ x.hq⟩
theorem SpI.hands {H H1 : Hp} {a b q l : Addr} {hs ts us : List Int} {n m : Int} (x : SpI H H1 a b q hs ts n m) (hl : H1 l = some (.lst (us.map V.int))) : SpI H H1 l b q us ts n m := ⟨x.sm, hl, x.hb, x.hq⟩
theorem SpI.tasks {H H1 : Hp} {a b q l : Addr} {hs ts us : List Int} {n m : Int} (x : SpI H H1 a b q hs ts n m) (hl : H1 l = some (.lst (us.map V.int))) : SpI H H1 a l q hs us n m := ⟨x.sm, x.ha, hl, x.hq⟩
/-- what is still to be read, for lists that are not too long -/
def SpRest (H : Hp) (q : Addr) (way spot n m : Int) (Q : VK) (nx : L2.St → Hp → Prop) (lh lt : Nat) (C : List Int → Prop) (t : TS) : Prop :=
  ∀ (a b : Addr) (hs ts : List Int) (H1 : Hp), SpI H H1 a b q hs ts n m → hs.length ≤ lh → ts.length ≤ lt → C ts → t { nx := nx, rt := Q } [some (.ref a), some (.ref b), some (.int way), some (.int spot), some (.ref q)] H1
def SpOut (H : Hp) (Q : VK) : Prop := ∀ (p l1 l2 : Addr) (us vs : List Int) H', Same H H' → H' l1 = some (.lst (us.map V.int)) → H' l2 = some (.lst (vs.map V.int)) → us.length ≤ 100 → vs.length ≤ 100 → H' p = some (.tup [.ref l1, .ref l2]) → Q (.ref p) H'
abbrev anyT : List Int → Prop := fun _ => True
section
variable {P : Program} {w : World} {K : PySem.W.Frag} {mg : Str → Option Value} {base : Heap} {f : Addr} {cdv : Value} {A : Around} {outer : List Env} {s : Shared} {H : Hp} {Q : VK} {E : XK} {nx : L2.St → Hp → Prop} {q : Addr} {way spot n m : Int}
theorem spo8 (k : SpOut H Q) : ∃ t, PSs (cxOf CX0 P w K mg base NS "_law_spoilt" (defScope s_spoilt) f cdv A outer s H E).nox ((defBody s_spoilt).drop 8) t ∧ SpRest H q way spot n m Q nx 100 100 anyT t := by
  refine ⟨_, pss_one (ps_ret (pe_tup (pa_cons (pv 0) (pa_cons (pv 1) pa_nil)))), ?_⟩
  intro a b hs ts H1 x h1 h2 _
  refine ⟨_, rfl, _, rfl, by show 2 ≤ sizeLine; decide, fun p hp => ?_⟩
  have e := (Same.refl H1).upd hp (o := HO.tup [.ref a, .ref b])
  exact k p a b hs ts _ (x.sm.trans e) (e _ _ x.ha) (e _ _ x.hb) h1 h2 upd_same
theorem spo7 (k : SpOut H Q) : ∃ t, PSs (cxOf CX0 P w K mg base NS "_law_spoilt" (defScope s_spoilt) f cdv A outer s H E).nox ((defBody s_spoilt).drop 7) t ∧ SpRest H q way spot n m Q nx 100 100 anyT t := by
  obtain ⟨t8, h8, r8⟩ := spo8 (P := P) (w := w) (K := K) (mg := mg) (base := base) (f := f) (cdv := cdv) (A := A) (outer := outer) (s := s) (E := E) (nx := nx) (q := q) (way := way) (spot := spot) (n := n) (m := m) k
  refine ⟨_, pss_cons (ps_if (pt_cmpR op_eq (pv 2) pe_int (nomark _)) (pss_cons (ps_set (i := 0) sc_spoilt.nd rfl (Or.inl rfl) (pe_lst pa_nil)) (pss_one (ps_set (i := 1) sc_spoilt.nd rfl (Or.inl rfl) (pe_lst pa_nil)))) pss_nil) h8, ?_⟩
  intro a b hs ts H1 x h1 h2 _
  refine ⟨_, rfl, rfl, _, rfl, ?_⟩
  refine ite2 (fun _ => ?_) (fun _ => r8 a b hs ts H1 x h1 h2 trivial)
  refine ⟨by decide, fun l hl => ?_⟩
  have e1 := (Same.refl H1).upd hl (o := HO.lst [])
  have a1 : (upd H1 l (.lst [])) l = some (.lst (([] : List Int).map V.int)) := upd_same
  generalize upd H1 l (.lst []) = H2 at e1 a1
  refine ⟨by decide, fun l2 hl2 => ?_⟩
  have e2 := (Same.refl H2).upd hl2 (o := HO.lst [])
  exact r8 l l2 [] [] _ (((x.same e1).hands a1).same e2 |>.tasks upd_same) (Nat.zero_le _) (Nat.zero_le _) trivial
theorem spo6 (k : SpOut H Q) : ∃ t, PSs (cxOf CX0 P w K mg base NS "_law_spoilt" (defScope s_spoilt) f cdv A outer s H E).nox ((defBody s_spoilt).drop 6) t ∧ SpRest H q way spot n m Q nx 100 99 anyT t := by
  obtain ⟨t7, h7, r7⟩ := spo7 (P := P) (w := w) (K := K) (mg := mg) (base := base) (f := f) (cdv := cdv) (A := A) (outer := outer) (s := s) (E := E) (nx := nx) (q := q) (way := way) (spot := spot) (n := n) (m := m) k
  refine ⟨_, pss_cons (ps_if (pt_cmpR op_eq (pv 2) pe_int (nomark _)) (pss_one (ps_set (i := 1) sc_spoilt.nd rfl (Or.inl rfl) (pe_ix ix_list (pe_lst (pa_cons (pe_op op_cat (pe_lst (pa_cons (pe_un un_neg pe_int) pa_nil)) (pv 1)) (pa_cons (pe_op op_cat (pv 1) (pe_lst (pa_cons (pe_ix ix_tup (pv 4) pe_int (fun _ _ => rfl)) pa_nil))) pa_nil))) (pe_op op_mod (pv 3) pe_int) (fun _ _ => rfl)))) pss_nil) h7, ?_⟩
  intro a b hs ts H1 x h1 h2 _
  refine ⟨_, rfl, rfl, _, rfl, ?_⟩
  refine ite2 (fun _ => ?_) (fun _ => r7 a b hs ts H1 x h1 (by omega) trivial)
  have big : 100 ≤ sizeLine := by decide
  refine ⟨_, rfl, by show 1 ≤ sizeLine; decide, fun l1 hl1 => ?_⟩
  have e1 := (Same.refl H1).upd hl1 (o := HO.lst [.int (-1)])
  have a1 : (upd H1 l1 (.lst [.int (-1)])) l1 = some (.lst (([-1] : List Int).map V.int)) := upd_same
  generalize upd H1 l1 (.lst [.int (-1)]) = H2 at e1 a1
  have x1 := x.same e1
  refine ⟨_, rfl, l1, b, _, _, rfl, rfl, a1, x1.hb, by rw [List.length_map, List.length_map]; show 1 + ts.length ≤ sizeLine; omega, fun l2 hl2 => ?_⟩
  rw [cat_ints]
  have e2 := (Same.refl H2).upd hl2 (o := HO.lst (([-1] ++ ts).map V.int))
  have a2 : (upd H2 l2 (.lst (([-1] ++ ts).map V.int))) l2 = some (.lst (([-1] ++ ts).map V.int)) := upd_same
  generalize upd H2 l2 (.lst (([-1] ++ ts).map V.int)) = H3 at e2 a2
  have x2 := x1.same e2
  refine ⟨_, rfl, _, rfl, q, _, 1, .int m, rfl, rfl, SqT.of x2.hq, rfl, by show 1 ≤ sizeLine; decide, fun l3 hl3 => ?_⟩
  have e3 := (Same.refl H3).upd hl3 (o := HO.lst [.int m])
  have a3 : (upd H3 l3 (.lst [.int m])) l3 = some (.lst (([m] : List Int).map V.int)) := upd_same
  generalize upd H3 l3 (.lst [.int m]) = H4 at e3 a3
  have x3 := x2.same e3
  refine ⟨b, l3, _, _, rfl, rfl, x3.hb, a3, by rw [List.length_map, List.length_map]; show ts.length + 1 ≤ sizeLine; omega, fun l4 hl4 => ?_⟩
  rw [cat_ints]
  have e4 := (Same.refl H4).upd hl4 (o := HO.lst ((ts ++ [m]).map V.int))
  have a4 : (upd H4 l4 (.lst ((ts ++ [m]).map V.int))) l4 = some (.lst ((ts ++ [m]).map V.int)) := upd_same
  generalize upd H4 l4 (.lst ((ts ++ [m]).map V.int)) = H5 at e4 a4
  have x4 := x3.same e4
  have a24 := e4 _ _ (e3 _ _ a2)
  refine ⟨by show 2 ≤ sizeLine; decide, fun l5 hl5 => ?_⟩
  have e5 := (Same.refl H5).upd hl5 (o := HO.lst [.ref l2, .ref l4])
  have a5 : (upd H5 l5 (.lst [.ref l2, .ref l4])) l5 = some (.lst [.ref l2, .ref l4]) := upd_same
  generalize upd H5 l5 (.lst [.ref l2, .ref l4]) = H6 at e5 a5
  have x5 := x4.same e5
  have hc : spot % 2 = 0 ∨ spot % 2 = 1 := by omega
  rcases hc with e | e
  · refine ⟨_, rfl, _, _, rfl, rfl, (show (0 : Int) < 2 by decide), l5, _, _, .ref l2, rfl, rfl, SqL.of a5, (by rw [e]; rfl), ?_⟩
    exact r7 a l2 hs _ _ (x5.tasks (e5 _ _ a24)) h1 (by rw [List.length_append]; show 1 + ts.length ≤ 100; omega) trivial
  · refine ⟨_, rfl, _, _, rfl, rfl, (show (0 : Int) < 2 by decide), l5, _, _, .ref l4, rfl, rfl, SqL.of a5, (by rw [e]; rfl), ?_⟩
    exact r7 a l4 hs _ _ (x5.tasks (e5 _ _ a4)) h1 (by rw [List.length_append]; show ts.length + 1 ≤ 100; omega) trivial
theorem spo5 (k : SpOut H Q) : ∃ t, PSs (cxOf CX0 P w K mg base NS "_law_spoilt" (defScope s_spoilt) f cdv A outer s H E).nox ((defBody s_spoilt).drop 5) t ∧ SpRest H q way spot n m Q nx 99 99 anyT t := by
  obtain ⟨t6, h6, r6⟩ := spo6 (P := P) (w := w) (K := K) (mg := mg) (base := base) (f := f) (cdv := cdv) (A := A) (outer := outer) (s := s) (E := E) (nx := nx) (q := q) (way := way) (spot := spot) (n := n) (m := m) k
  refine ⟨_, pss_cons (ps_if (pt_cmpR op_eq (pv 2) pe_int (nomark _)) (pss_one (ps_set (i := 0) sc_spoilt.nd rfl (Or.inl rfl) (pe_ix ix_list (pe_lst (pa_cons (pe_op op_cat (pe_lst (pa_cons (pe_un un_neg pe_int) pa_nil)) (pv 0)) (pa_cons (pe_op op_cat (pv 0) (pe_lst (pa_cons (pe_ix ix_tup (pv 4) pe_int (fun _ _ => rfl)) pa_nil))) (pa_cons (pe_op op_cat (pv 0) (pe_lst (pa_cons (pe_ix ix_tup (pv 4) pe_int (fun _ _ => rfl)) pa_nil))) pa_nil)))) (pe_op op_mod (pv 3) pe_int) (fun _ _ => rfl)))) pss_nil) h6, ?_⟩
  intro a b hs ts H1 x h1 h2 _
  refine ⟨_, rfl, rfl, _, rfl, ?_⟩
  refine ite2 (fun _ => ?_) (fun _ => r6 a b hs ts H1 x (by omega) h2 trivial)
  have big : 100 ≤ sizeLine := by decide
  refine ⟨_, rfl, by show 1 ≤ sizeLine; decide, fun l1 hl1 => ?_⟩
  have e1 := (Same.refl H1).upd hl1 (o := HO.lst [.int (-1)])
  have a1 : (upd H1 l1 (.lst [.int (-1)])) l1 = some (.lst (([-1] : List Int).map V.int)) := upd_same
  generalize upd H1 l1 (.lst [.int (-1)]) = H2 at e1 a1
  have x1 := x.same e1
  refine ⟨_, rfl, l1, a, _, _, rfl, rfl, a1, x1.ha, by rw [List.length_map, List.length_map]; show 1 + hs.length ≤ sizeLine; omega, fun l2 hl2 => ?_⟩
  rw [cat_ints]
  have e2 := (Same.refl H2).upd hl2 (o := HO.lst (([-1] ++ hs).map V.int))
  have a2 : (upd H2 l2 (.lst (([-1] ++ hs).map V.int))) l2 = some (.lst (([-1] ++ hs).map V.int)) := upd_same
  generalize upd H2 l2 (.lst (([-1] ++ hs).map V.int)) = H3 at e2 a2
  have x2 := x1.same e2
  refine ⟨_, rfl, _, rfl, q, _, 0, .int n, rfl, rfl, SqT.of x2.hq, rfl, by show 1 ≤ sizeLine; decide, fun l3 hl3 => ?_⟩
  have e3 := (Same.refl H3).upd hl3 (o := HO.lst [.int n])
  have a3 : (upd H3 l3 (.lst [.int n])) l3 = some (.lst (([n] : List Int).map V.int)) := upd_same
  generalize upd H3 l3 (.lst [.int n]) = H4 at e3 a3
  have x3 := x2.same e3
  refine ⟨a, l3, _, _, rfl, rfl, x3.ha, a3, by rw [List.length_map, List.length_map]; show hs.length + 1 ≤ sizeLine; omega, fun l4 hl4 => ?_⟩
  rw [cat_ints]
  have e4 := (Same.refl H4).upd hl4 (o := HO.lst ((hs ++ [n]).map V.int))
  have a4 : (upd H4 l4 (.lst ((hs ++ [n]).map V.int))) l4 = some (.lst ((hs ++ [n]).map V.int)) := upd_same
  generalize upd H4 l4 (.lst ((hs ++ [n]).map V.int)) = H5 at e4 a4
  have x4 := x3.same e4
  have a24 := e4 _ _ (e3 _ _ a2)
  refine ⟨_, rfl, _, rfl, q, _, 0, .int n, rfl, rfl, SqT.of x4.hq, rfl, by show 1 ≤ sizeLine; decide, fun l5 hl5 => ?_⟩
  have e5 := (Same.refl H5).upd hl5 (o := HO.lst [.int n])
  have a5 : (upd H5 l5 (.lst [.int n])) l5 = some (.lst (([n] : List Int).map V.int)) := upd_same
  generalize upd H5 l5 (.lst [.int n]) = H6 at e5 a5
  have x5 := x4.same e5
  refine ⟨a, l5, _, _, rfl, rfl, x5.ha, a5, by rw [List.length_map, List.length_map]; show hs.length + 1 ≤ sizeLine; omega, fun l6 hl6 => ?_⟩
  rw [cat_ints]
  have e6 := (Same.refl H6).upd hl6 (o := HO.lst ((hs ++ [n]).map V.int))
  have a6 : (upd H6 l6 (.lst ((hs ++ [n]).map V.int))) l6 = some (.lst ((hs ++ [n]).map V.int)) := upd_same
  generalize upd H6 l6 (.lst ((hs ++ [n]).map V.int)) = H7 at e6 a6
  have x6 := x5.same e6
  have a26 := e6 _ _ (e5 _ _ a24)
  have a46 := e6 _ _ (e5 _ _ a4)
  refine ⟨by show 3 ≤ sizeLine; decide, fun l7 hl7 => ?_⟩
  have e7 := (Same.refl H7).upd hl7 (o := HO.lst [.ref l2, .ref l4, .ref l6])
  have a7 : (upd H7 l7 (.lst [.ref l2, .ref l4, .ref l6])) l7 = some (.lst [.ref l2, .ref l4, .ref l6]) := upd_same
  generalize upd H7 l7 (.lst [.ref l2, .ref l4, .ref l6]) = H8 at e7 a7
  have x7 := x6.same e7
  have hc : spot % 3 = 0 ∨ spot % 3 = 1 ∨ spot % 3 = 2 := by omega
  have ln : (hs ++ [n]).length ≤ 100 := by rw [List.length_append]; show hs.length + 1 ≤ 100; omega
  rcases hc with e | e | e
  · refine ⟨_, rfl, _, _, rfl, rfl, (show (0 : Int) < 3 by decide), l7, _, _, .ref l2, rfl, rfl, SqL.of a7, (by rw [e]; rfl), ?_⟩
    exact r6 l2 b _ ts _ (x7.hands (e7 _ _ a26)) (by rw [List.length_append]; show 1 + hs.length ≤ 100; omega) h2 trivial
  · refine ⟨_, rfl, _, _, rfl, rfl, (show (0 : Int) < 3 by decide), l7, _, _, .ref l4, rfl, rfl, SqL.of a7, (by rw [e]; rfl), ?_⟩
    exact r6 l4 b _ ts _ (x7.hands (e7 _ _ a46)) ln h2 trivial
  · refine ⟨_, rfl, _, _, rfl, rfl, (show (0 : Int) < 3 by decide), l7, _, _, .ref l6, rfl, rfl, SqL.of a7, (by rw [e]; rfl), ?_⟩
    exact r6 l6 b _ ts _ (x7.hands (e7 _ _ a6)) ln h2 trivial
theorem spo4 (k : SpOut H Q) : ∃ t, PSs (cxOf CX0 P w K mg base NS "_law_spoilt" (defScope s_spoilt) f cdv A outer s H E).nox ((defBody s_spoilt).drop 4) t ∧ SpRest H q way spot n m Q nx 99 49 anyT t := by
  obtain ⟨t5, h5, r5⟩ := spo5 (P := P) (w := w) (K := K) (mg := mg) (base := base) (f := f) (cdv := cdv) (A := A) (outer := outer) (s := s) (E := E) (nx := nx) (q := q) (way := way) (spot := spot) (n := n) (m := m) k
  refine ⟨_, pss_cons (ps_if (pt_cmpR op_eq (pv 2) pe_int (nomark _)) (pss_one (ps_set (i := 1) sc_spoilt.nd rfl (Or.inl rfl) (pe_op op_cat (pe_slice sl_list (pv 1) po_none (po_some pe_int)) (pv 1)))) pss_nil) h5, ?_⟩
  intro a b hs ts H1 x h1 h2 _
  refine ⟨_, rfl, rfl, _, rfl, ?_⟩
  refine ite2 (fun _ => ?_) (fun _ => r5 a b hs ts H1 x h1 (by omega) trivial)
  have big : 100 ≤ sizeLine := by decide
  refine ⟨_, rfl, 1, rfl, b, _, rfl, SqL.of x.hb, fun l1 hl1 => ?_⟩
  obtain ⟨us, eu, hul, _⟩ := cut_intsM ts none (some 1)
  rw [eu]
  have e1 := (Same.refl H1).upd hl1 (o := HO.lst (us.map V.int))
  have a1 : (upd H1 l1 (.lst (us.map V.int))) l1 = some (.lst (us.map V.int)) := upd_same
  generalize upd H1 l1 (.lst (us.map V.int)) = H2 at e1 a1
  have x1 := x.same e1
  refine ⟨_, rfl, l1, b, _, _, rfl, rfl, a1, x1.hb, by rw [List.length_map, List.length_map]; omega, fun l2 hl2 => ?_⟩
  rw [cat_ints]
  have e2 := (Same.refl H2).upd hl2 (o := HO.lst ((us ++ ts).map V.int))
  exact r5 a l2 hs _ _ ((x1.same e2).tasks upd_same) h1 (by rw [List.length_append]; omega) trivial
theorem spo3 (B : Blt mg) (hrev : mg "reversed" = none) (k : SpOut H Q) : ∃ t, PSs (cxOf CX0 P w K mg base NS "_law_spoilt" (defScope s_spoilt) f cdv A outer s H E).nox ((defBody s_spoilt).drop 3) t ∧ SpRest H q way spot n m Q nx 99 49 anyT t := by
  obtain ⟨t4, h4, r4⟩ := spo4 (P := P) (w := w) (K := K) (mg := mg) (base := base) (f := f) (cdv := cdv) (A := A) (outer := outer) (s := s) (E := E) (nx := nx) (q := q) (way := way) (spot := spot) (n := n) (m := m) k
  refine ⟨_, pss_cons (ps_if (pt_cmpR op_eq (pv 2) pe_int (nomark _)) (pss_one (ps_set (i := 0) sc_spoilt.nd rfl (Or.inl rfl) (pe_listRev rfl (by rfl) B.list (by rfl) hrev (pa_cons (pv 0) pa_nil)))) pss_nil) h4, ?_⟩
  intro a b hs ts H1 x h1 h2 _
  refine ⟨_, rfl, rfl, _, rfl, ?_⟩
  refine ite2 (fun _ => ?_) (fun _ => r4 a b hs ts H1 x h1 h2 trivial)
  refine ⟨_, rfl, a, _, rfl, SqL.of x.ha, fun l1 hl1 => ?_⟩
  rw [← List.map_reverse]
  have e1 := (Same.refl H1).upd hl1 (o := HO.lst (hs.reverse.map V.int))
  exact r4 l1 b _ ts _ ((x.same e1).hands upd_same) (by rw [List.length_reverse]; exact h1) h2 trivial
theorem spo2 (B : Blt mg) (hrev : mg "reversed" = none) (hsort : mg "sorted" = none) (m1 : 1 ≤ m) (m7 : m ≤ 7) (k : SpOut H Q) :
    ∃ t, PSs (cxOf CX0 P w K mg base NS "_law_spoilt" (defScope s_spoilt) f cdv A outer s H E).nox ((defBody s_spoilt).drop 2) t ∧ SpRest H q way spot n m Q nx 99 49 (fun ts => way = 3 → ∀ t ∈ ts, 0 ≤ t ∧ t < m) t := by
  obtain ⟨t3, h3, r3⟩ := spo3 (P := P) (w := w) (K := K) (mg := mg) (base := base) (f := f) (cdv := cdv) (A := A) (outer := outer) (s := s) (E := E) (nx := nx) (q := q) (way := way) (spot := spot) (n := n) (m := m) B hrev k
  refine ⟨_, pss_cons (ps_if (pt_cmpR op_eq (pv 2) pe_int (nomark _)) (pss_one (ps_set (i := 1) sc_spoilt.nd rfl (Or.inl rfl) (pe_callB (call_sortedR rfl) (by rfl) hsort boot_sorted3 (pa_cons (pe_callTy (call_setR rfl) (by rfl) B.set boot_set (pa_cons (pe_op op_cat (pv 1) (pe_lst (pa_cons (pe_op op_mod (pv 3) (pe_ix ix_tup (pv 4) pe_int (fun _ _ => rfl))) pa_nil))) pa_nil)) pa_nil)))) pss_nil) h3, ?_⟩
  intro a b hs ts H1 x h1 h2 h0
  refine ⟨_, rfl, rfl, _, rfl, ?_⟩
  refine ite2 (fun hw => ?_) (fun _ => r3 a b hs ts H1 x h1 h2 trivial)
  have big : 100 ≤ sizeLine := by decide
  have in7 := h0 (eqI' hw)
  refine ⟨_, rfl, _, rfl, _, rfl, q, _, 1, .int m, rfl, rfl, SqT.of x.hq, rfl, _, _, rfl, rfl, (show (0 : Int) < m by omega), by show 1 ≤ sizeLine; decide, fun l1 hl1 => ?_⟩
  have e1 := (Same.refl H1).upd hl1 (o := HO.lst [.int (spot % m)])
  have a1 : (upd H1 l1 (.lst [.int (spot % m)])) l1 = some (.lst (([spot % m] : List Int).map V.int)) := upd_same
  generalize upd H1 l1 (.lst [.int (spot % m)]) = H2 at e1 a1
  have x1 := x.same e1
  refine ⟨b, l1, _, _, rfl, rfl, x1.hb, a1, by rw [List.length_map, List.length_map]; show ts.length + 1 ≤ sizeLine; omega, fun l2 hl2 => ?_⟩
  rw [cat_ints]
  have e2 := (Same.refl H2).upd hl2 (o := HO.lst ((ts ++ [spot % m]).map V.int))
  have a2 : (upd H2 l2 (.lst ((ts ++ [spot % m]).map V.int))) l2 = some (.lst ((ts ++ [spot % m]).map V.int)) := upd_same
  generalize upd H2 l2 (.lst ((ts ++ [spot % m]).map V.int)) = H3 at e2 a2
  have x2 := x1.same e2
  have b0 := Int.emod_nonneg spot (show m ≠ 0 by omega)
  have b1 := Int.emod_lt_of_pos spot (show 0 < m by omega)
  refine ⟨l2, ts ++ [spot % m], rfl, SqL.of a2, fun y hy => ?_, fun l3 hl3 => ?_⟩
  · rcases List.mem_append.mp hy with z | z
    · have := in7 y z; omega
    · have : y = spot % m := by simpa using z
      omega
  have e3 := (Same.refl H3).upd hl3 (o := setX w l3)
  have a3 : (upd H3 l3 (setX w l3)) l3 = some (setX w l3) := upd_same
  refine ⟨l3, rfl, upd_same, fun l4 us hl4 u7 => ?_⟩
  have e4 := e3.upd hl4 (o := HO.lst (us.map V.int))
  exact r3 a l4 hs us _ ((x2.same e4).tasks upd_same) h1 (by omega) trivial
theorem spo1 (B : Blt mg) (hrev : mg "reversed" = none) (hsort : mg "sorted" = none) (m1 : 1 ≤ m) (m7 : m ≤ 7) (k : SpOut H Q) :
    ∃ t, PSs (cxOf CX0 P w K mg base NS "_law_spoilt" (defScope s_spoilt) f cdv A outer s H E).nox ((defBody s_spoilt).drop 1) t ∧ SpRest H q way spot n m Q nx 99 24 (fun ts => ∀ t ∈ ts, 0 ≤ t ∧ t < m) t := by
  obtain ⟨t2, h2, r2⟩ := spo2 (P := P) (w := w) (K := K) (mg := mg) (base := base) (f := f) (cdv := cdv) (A := A) (outer := outer) (s := s) (E := E) (nx := nx) (q := q) (way := way) (spot := spot) (n := n) (m := m) B hrev hsort m1 m7 k
  refine ⟨_, pss_cons (ps_if (pt_cmpR op_eq (pv 2) pe_int (nomark _)) (pss_one (ps_set (i := 1) sc_spoilt.nd rfl (Or.inl rfl) (pe_op op_cat (pe_slice sl_list (pv 1) po_none (po_some (pe_op op_mod (pv 3) pe_int))) (pe_slice sl_list (pv 1) (po_some (pe_op op_add (pe_op op_mod (pv 3) pe_int) pe_int)) po_none)))) pss_nil) h2, ?_⟩
  intro a b hs ts H1 x h1 h2 h0
  refine ⟨_, rfl, rfl, _, rfl, ?_⟩
  refine ite2 (fun hw => ?_) (fun _ => r2 a b hs ts H1 x h1 (by omega) fun _ => h0)
  have big : 100 ≤ sizeLine := by decide
  have w2 : way = 2 := eqI' hw
  refine ⟨_, rfl, _, rfl, _, _, rfl, rfl, (show (0 : Int) < 7 by decide), _, rfl, b, _, rfl, SqL.of x.hb, fun l1 hl1 => ?_⟩
  obtain ⟨us, eu, hul, _⟩ := cut_intsM ts none (some (spot % 7))
  rw [eu]
  have e1 := (Same.refl H1).upd hl1 (o := HO.lst (us.map V.int))
  have a1 : (upd H1 l1 (.lst (us.map V.int))) l1 = some (.lst (us.map V.int)) := upd_same
  generalize upd H1 l1 (.lst (us.map V.int)) = H2 at e1 a1
  have x1 := x.same e1
  refine ⟨_, rfl, _, rfl, _, _, rfl, rfl, (show (0 : Int) < 7 by decide), _, _, rfl, rfl, _, rfl, b, _, rfl, SqL.of x1.hb, fun l2 hl2 => ?_⟩
  obtain ⟨vs, ev, hvl, _⟩ := cut_intsM ts (some (spot % 7 + 1)) none
  rw [ev]
  have e2 := (Same.refl H2).upd hl2 (o := HO.lst (vs.map V.int))
  have a2 : (upd H2 l2 (.lst (vs.map V.int))) l2 = some (.lst (vs.map V.int)) := upd_same
  generalize upd H2 l2 (.lst (vs.map V.int)) = H3 at e2 a2
  have x2 := x1.same e2
  refine ⟨l1, l2, _, _, rfl, rfl, e2 _ _ a1, a2, by rw [List.length_map, List.length_map]; omega, fun l3 hl3 => ?_⟩
  rw [cat_ints]
  have e3 := (Same.refl H3).upd hl3 (o := HO.lst ((us ++ vs).map V.int))
  exact r2 a l3 hs _ _ ((x2.same e3).tasks upd_same) h1 (by rw [List.length_append]; omega) fun h => absurd (w2.symm.trans h) (by decide)
theorem ok_spoilt (B : Blt mg) (hrev : mg "reversed" = none) (hsort : mg "sorted" = none) (D : DefIs K mg "_law_spoilt" s_spoilt NS) : Has P w K mg base 1 "_law_spoilt" NS (sp_spoilt K) := by
  refine D.has sc_spoilt (fun vs H Q E h => ?_) (fun f cdv A outer s H vs Q E hr h => ?_)
  · obtain ⟨a, b, q, hs, ts, way, spot, n, m, rfl, _⟩ := h
    rfl
  · obtain ⟨a, b, q, hs, ts, way, spot, n, m, rfl, ha, hb, hq, lh, lt, m1, m7, mem, k⟩ := h
    obtain ⟨t1, h1, r1⟩ := spo1 (P := P) (w := w) (K := K) (mg := mg) (base := base) (f := f) (cdv := cdv) (A := A) (outer := outer) (s := s) (E := E) (nx := fun _ H' => Q .non H') (q := q) (way := way) (spot := spot) (n := n) (m := m) B hrev hsort m1 m7 k
    refine ⟨_, pss_cons (ps_if (pt_cmpR op_eq (pv 2) pe_int (nomark _)) (pss_one (ps_set (i := 0) sc_spoilt.nd rfl (Or.inl rfl) (pe_slice sl_list (pv 0) (po_some pe_int) po_none))) pss_nil) h1, ?_⟩
    have x : SpI H H a b q hs ts n m := ⟨Same.refl H, ha, hb, hq⟩
    refine ⟨_, rfl, rfl, _, rfl, ?_⟩
    refine ite2 (fun _ => ?_) (fun _ => r1 a b hs ts H x (by omega) (by omega) mem)
    refine ⟨_, rfl, _, rfl, a, _, rfl, SqL.of ha, fun l1 hl1 => ?_⟩
    obtain ⟨us, eu, hul, _⟩ := cut_intsM hs (some 1) none
    rw [eu]
    have e1 := (Same.refl H).upd hl1 (o := HO.lst (us.map V.int))
    exact r1 l1 b us ts _ ((x.same e1).hands upd_same) (by omega) (by omega) mem
end

end Hf

namespace Hf
open PySem PySem.Spec PyProof.Rows L2
section
variable {P : Program} {w : World} {K : PySem.W.Frag} {mg : Str → Option Value} {base : Heap}
theorem at_mem {ns : List Int} {k : Int} {n : Int} (h : atI (ns.map V.int) k = some (.int n)) : n ∈ ns := by
  obtain ⟨j, _, e, _⟩ := atI_get h
  obtain ⟨y, hy, ey⟩ := get_int e
  cases ey
  exact List.mem_of_getElem? hy
theorem law9 (B : Blt mg) (G : Defs P w K mg base) {f : Addr} {cdv : Value} {A : Around} {outer : List Env} {s : Shared} {H : Hp} {Q : VK} {E : XK} {nx : L2.St → Hp → Prop} (hr : Room 4 (A.deeper (envOfC "law" (defScope s_law) s.heap.objs.size f cdv))) (k : ∀ H', Q (.bl true) H') :
    ∃ t, PSs (cxOf CX0 P w K mg base NL "law" (defScope s_law) f cdv A outer s H E).nox ((defBody s_law).drop 9) t ∧
      ∀ (m cnt : Int) (sl rl al bl : Addr) (as : List Addr) (T : HTab) (sn hs ts : List Int) (v1 v7 v8 v9 v10 v11 v12 v13 v14 v15 v16 : Option V) (H1 : Hp), H1 sl = some (.lst (sn.map V.int)) → Own H1 rl as T → Wide m T → H1 al = some (.lst (hs.map V.int)) → H1 bl = some (.lst (ts.map V.int)) → al ∉ rl :: as → bl ∉ rl :: as → (∀ h ∈ hs, 0 ≤ h ∧ h < T.length) → hs.length ≤ 20 → ts.length ≤ 20 → 1 ≤ m → m ≤ 7 → T.length ≤ 40 → (∀ t ∈ ts, 0 ≤ t ∧ t < m) →
        t { nx := nx, rt := Q } [some (.ref sl), v1, some (.int m), some (.int cnt), some (.ref al), some (.ref bl), some (.ref rl), v7, v8, v9, v10, v11, v12, v13, v14, v15, v16] H1 := by
  have hu := hr.units0
  obtain ⟨t13, h13, r13⟩ := law13 (P := P) (w := w) (K := K) (mg := mg) (base := base) B G (f := f) (cdv := cdv) (A := A) (outer := outer) (s := s) (H := H) (Q := Q) (E := E) (nx := nx) hr k
  refine ⟨_, pss_cons (ps_set (i := 12) sc_law.nd rfl (Or.inl rfl) (pe_op op_mod (pe_fn G.at_ (hr.mono (by decide)) (by rfl) (pa_cons (pv 0) (pa_cons pe_int pa_nil))) pe_int))
    (pss_cons (ps_set (i := 13) sc_law.nd rfl (Or.inl rfl) (pe_op op_fdiv (pe_fn G.at_ (hr.mono (by decide)) (by rfl) (pa_cons (pv 0) (pa_cons pe_int pa_nil))) pe_int))
    (pss_cons (ps_comp (i := 14) (sc := defScope s_law) (XN := NL) (own := ["_law_task"]) (fr := ["_law_tasks"]) (js := [5]) sc_law.nd rfl rfl rfl rfl rfl rfl (⟨rfl, by decide +kernel, by decide +kernel, by decide +kernel, rfl, by decide +kernel⟩) (pi_range1 (by rfl) B.range (pa_cons (pv 2) pa_nil)) (fun _ _ _ _ _ => (pg_name (i := 0) (show List.Nodup (["_law_task", "_law_tasks"] : List Str) by decide +kernel) rfl (Or.inl rfl))) (fun _ _ _ _ _ => (pts_one (pt_cmpR (op_notIn_seqK (K := K) rfl) (pv 0) (pv 1) (by with_unfolding_all rfl)))) (fun _ _ _ _ _ => (pv 0)))
    (pss_cons (ps_if ((pw_and (pt_cmpR op_gt (pv 12) pe_int (nomark _)) (pw_and (pt_cmpR (op_ne_nil hu) (pv 4) (pe_lst pa_nil) (nomark _)) (pw_and1 (pt_cmpR (op_ne_nil hu) (pv 14) (pe_lst pa_nil) (nomark _)))))).pt (pss_one (ps_asg pe_int (pg_sub (pe_ix ix_list (pv 6) (pe_ix ix_list (pv 4) (pe_un un_neg pe_int) (fun _ _ => rfl)) (fun _ _ => rfl)) (pe_ix ix_list (pv 14) (pe_op op_mod (pv 13) (pe_callB call_len_seq (by rfl) B.len boot_len (pa_cons (pv 14) pa_nil))) (fun _ _ => rfl)) set_list))) pss_nil) h13))), ?_⟩
  intro m cnt sl rl al bl as T sn hs ts v1 v7 v8 v9 v10 v11 v12 v13 v14 v15 v16 H1 hsl o1 hw hal hbl nal nbl hin hhl htl hm1 hm2 hT htm
  refine ⟨_, rfl, sl, sn, 1, rfl, SqL.of hsl, by decide, fun n1 => ⟨_, _, rfl, rfl, (show (0 : Int) < 11 by decide), ?_⟩⟩
  refine ⟨_, rfl, sl, sn, 1, rfl, SqL.of hsl, by decide, fun n2 => ⟨_, _, rfl, rfl, ⟨by decide, by decide⟩, ?_⟩⟩
  refine ⟨_, rfl, m, rfl, by omega, by omega, ?_⟩
  refine comp_range_by (fun i ys H2 => Same H1 H2 ∧ ∃ us : List Int, ys = us.map V.int ∧ us.length ≤ i ∧ ∀ x ∈ us, 0 ≤ x ∧ x < m) ⟨Same.refl H1, [], rfl, Nat.le_refl _, fun x hx => (List.not_mem_nil hx).elim⟩ (by omega) ?_ ?_ ?_
  · rintro i ys H2 ⟨_, us, rfl, hu', _⟩
    rw [List.length_map]; exact hu'
  · rintro ys H2 ⟨s2, us, rfl, hu', hin2⟩ D' hD'
    have s3 := s2.upd hD' (o := HO.lst (us.map V.int))
    have a3 : (upd H2 D' (.lst (us.map V.int))) D' = some (.lst (us.map V.int)) := upd_same
    generalize upd H2 D' (.lst (us.map V.int)) = H3 at s3 a3
    have o3 := o1.same s3
    have hal3 := s3 _ _ hal
    have hbl3 := s3 _ _ hbl
    refine ⟨_, rfl, _, _, rfl, rfl, _, rfl, ?_⟩
    refine ite2 (fun e1 => ?_) (fun e1 => r13 m cnt _ _ rl al bl as T hs ts _ _ _ _ _ _ _ _ _ _ H3 o3 hw hal3 hbl3 hhl htl hm1 hm2 hT htm)
    refine ⟨_, rfl, by decide, fun q1 hq1 => ?_⟩
    have s4 : Same H3 (upd H3 q1 (.lst [])) := (Same.refl H3).upd hq1
    have a4 : (upd H3 q1 (.lst [])) q1 = some (.lst []) := upd_same
    generalize upd H3 q1 (.lst []) = H4 at s4 a4
    refine ⟨al, q1, _, rfl, rfl, SqL.of (s4 _ _ hal3), SqL.of a4, _, rfl, ?_⟩
    refine ite2 (fun e2 => ?_) (fun e2 => r13 m cnt _ _ rl al bl as T hs ts _ _ _ _ _ _ _ _ _ _ H4 (o3.same s4) hw (s4 _ _ hal3) (s4 _ _ hbl3) hhl htl hm1 hm2 hT htm)
    refine ⟨_, rfl, by decide, fun q2 hq2 => ?_⟩
    have s5 : Same H4 (upd H4 q2 (.lst [])) := (Same.refl H4).upd hq2
    have a5 : (upd H4 q2 (.lst [])) q2 = some (.lst []) := upd_same
    generalize upd H4 q2 (.lst []) = H5 at s5 a5
    have s35 := s4.trans s5
    refine ⟨D', q2, _, rfl, rfl, SqL.of (s35 _ _ a3), SqL.of a5, _, rfl, ?_⟩
    refine ite2 (fun e3 => ?_) (fun e3 => r13 m cnt _ _ rl al bl as T hs ts _ _ _ _ _ _ _ _ _ _ H5 (o3.same s35) hw (s35 _ _ hal3) (s35 _ _ hbl3) hhl htl hm1 hm2 hT htm)
    have hne : hs ≠ [] := fun z => by rw [z] at e2; cases e2
    have hne2 : us ≠ [] := fun z => by rw [z] at e3; cases e3
    have hl1 : 0 < hs.length := List.length_pos_iff.mpr hne
    have hl2 : 0 < us.length := List.length_pos_iff.mpr hne2
    obtain ⟨h, hh⟩ := atI_some (ns := hs) (k := -1) (by omega) (by omega)
    obtain ⟨h0, h1⟩ := hin h (at_mem hh)
    have o5 := o3.same s35
    have hhT : h.toNat < T.length := by omega
    have hT' : T[h.toNat]? = some T[h.toNat] := List.getElem?_eq_getElem hhT
    generalize T[h.toNat] = r at hT'
    have has : as[h.toNat]? = some (as[h.toNat]'(by have := o1.len; omega)) := List.getElem?_eq_getElem _
    generalize as[h.toNat]'(by have := o1.len; omega) = b at has
    have hwr := hw _ r hT'
    have hb := o5.row _ b r has hT'
    have hq0 : 0 ≤ (n2 / 11) % (us.length : Int) := Int.emod_nonneg _ (by omega)
    have hq1 : (n2 / 11) % (us.length : Int) < us.length := Int.emod_lt_of_pos _ (by omega)
    obtain ⟨u, hu2⟩ := atI_some (ns := us) (k := (n2 / 11) % (us.length : Int)) (by omega) hq1
    obtain ⟨u0, u1⟩ := hin2 u (at_mem hu2)
    refine ⟨_, rfl, _, rfl, _, rfl, al, _, _, .int h, rfl, rfl, SqL.of (s35 _ _ hal3), hh, rl, _, h, .ref b, rfl, rfl, SqL.of o5.lst, atI_int h0 (by rw [List.getElem?_map, has]; rfl), ?_⟩
    refine ⟨_, rfl, _, rfl, _, rfl, D', _, rfl, .inl (SqL.of (s35 _ _ a3)), _, _, rfl, rfl, by rw [List.length_map]; omega, D', _, _, .int u, rfl, rfl, SqL.of (s35 _ _ a3), by rw [List.length_map]; exact hu2, b, _, u, u.toNat, rfl, rfl, hb, ixN_ok u0 (by rw [List.length_map]; omega), ?_⟩
    have e : (r.map cellV).set u.toNat (.int 1) = (r.set u.toNat (some 1)).map cellV := by rw [List.map_set]; rfl
    rw [e]
    have nb : ∀ x, x ∉ rl :: as → x ≠ b := fun x hx z => hx (z ▸ List.mem_cons_of_mem _ (List.mem_of_getElem? has))
    refine r13 m cnt _ _ rl al bl as _ hs ts _ _ _ _ _ _ _ _ _ _ _ (o5.put has) (fun i q eq => ?_) (by rw [upd_ne (nb al nal)]; exact s35 _ _ hal3) (by rw [upd_ne (nb bl nbl)]; exact s35 _ _ hbl3) hhl htl hm1 hm2 (by rw [List.length_set]; exact hT) htm
    by_cases hi : i = h.toNat
    · subst hi
      rw [List.getElem?_set_self hhT] at eq
      cases eq
      rw [List.length_set]; exact hwr
    · rw [List.getElem?_set_ne (Ne.symm hi)] at eq
      exact hw i q eq
  · rintro i ys H2 hi ⟨s2, us, rfl, hu', hin2⟩
    refine ⟨_, rfl, _, rfl, bl, _, rfl, .inl (SqL.of (s2 _ _ hbl)), rfl, ints_flat ts, _, rfl, ?_⟩
    refine ite2 (fun h1 => ?_) (fun h1 => ?_)
    · refine ⟨_, rfl, s2, us ++ [0 + (i : Int)], app_int us _, by rw [List.length_append, List.length_singleton]; omega, fun x hx => ?_⟩
      rcases List.mem_append.mp hx with z | z
      · exact hin2 x z
      · have : x = 0 + (i : Int) := by simpa using z
        omega
    · exact ⟨s2, us, rfl, by omega, hin2⟩
end

end Hf

namespace Hf
open PySem PySem.Spec PyProof.Rows L2
def forBody (s : Stmt) : List Stmt := match s with
  | .For _ _ b _ _ => b
  | _ => []
abbrev outFor : List Stmt := forBody ((defBody s_law).getD 8 (.Pass ⟨0, 0, 0, 0⟩))
abbrev inFor : List Stmt := forBody (outFor.getD 1 (.Pass ⟨0, 0, 0, 0⟩))
section
variable {P : Program} {w : World} {K : PySem.W.Frag} {mg : Str → Option Value} {base : Heap}
theorem law7 (B : Blt mg) (G : Defs P w K mg base) {f : Addr} {cdv : Value} {A : Around} {outer : List Env} {s : Shared} {H : Hp} {Q : VK} {E : XK} {nx : L2.St → Hp → Prop} (hr : Room 4 (A.deeper (envOfC "law" (defScope s_law) s.heap.objs.size f cdv))) (k : ∀ H', Q (.bl true) H') :
    ∃ t, PSs (cxOf CX0 P w K mg base NL "law" (defScope s_law) f cdv A outer s H E).nox ((defBody s_law).drop 7) t ∧
      ∀ (m cnt : Int) (sl al bl : Addr) (sn hs ts : List Int) (v1 v6 v7 v8 v9 v10 v11 v12 v13 v14 v15 v16 : Option V) (H1 : Hp), H1 sl = some (.lst (sn.map V.int)) → H1 al = some (.lst (hs.map V.int)) → H1 bl = some (.lst (ts.map V.int)) → (∀ h ∈ hs, 0 ≤ h ∧ h < cnt) → hs.length ≤ 20 → ts.length ≤ 20 → 1 ≤ m → m ≤ 7 → 1 ≤ cnt → cnt ≤ 40 → (∀ t ∈ ts, 0 ≤ t ∧ t < m) →
        t { nx := nx, rt := Q } [some (.ref sl), v1, some (.int m), some (.int cnt), some (.ref al), some (.ref bl), v6, v7, v8, v9, v10, v11, v12, v13, v14, v15, v16] H1 := by
  obtain ⟨t9, h9, r9⟩ := law9 (P := P) (w := w) (K := K) (mg := mg) (base := base) B G (f := f) (cdv := cdv) (A := A) (outer := outer) (s := s) (H := H) (Q := Q) (E := E) (nx := nx) hr k
  obtain ⟨tA, hA, rA⟩ : ∃ t, PSs (cxOf CX0 P w K mg base NL "law" (defScope s_law) f cdv A outer s H E).nox (inFor.drop 3) t ∧
      ∀ (D : Ends) (rw' : Addr) (r : HRow) (c : Option Int) (v0 v1 v2 v3 v4 v5 v6 v7 v9 v10 v12 v13 v14 v15 v16 : Option V) (H1 : Hp), H1 rw' = some (.lst (r.map cellV)) → r.length ≤ 100 → D.nx [v0, v1, v2, v3, v4, v5, v6, v7, some (.ref rw'), v9, v10, some (cellV c), v12, v13, v14, v15, v16] (upd H1 rw' (.lst ((r ++ [c]).map cellV))) →
        t D [v0, v1, v2, v3, v4, v5, v6, v7, some (.ref rw'), v9, v10, some (cellV c), v12, v13, v14, v15, v16] H1 := by
    refine ⟨_, pss_one (ps_expr (pe_bm PySem.F.plainAttrs_list PySem.F.slot_list_append PySem.F.type_list_append mt_append (pv 8) (pa_cons (pv 11) pa_nil))), ?_⟩
    intro D rw' r c v0 v1 v2 v3 v4 v5 v6 v7 v9 v10 v12 v13 v14 v15 v16 H1 hrw hl kD
    refine ⟨_, rfl, .inl ⟨rfl, _, SqL.of hrw⟩, _, rfl, rw', _, _, rfl, rfl, hrw, ?_, ?_⟩
    · rw [List.length_map]; exact Nat.lt_of_le_of_lt hl (by decide)
    · rw [app_row]; exact kD
  refine ⟨_, pss_cons (ps_set (i := 6) sc_law.nd rfl (Or.inl rfl) (pe_lst pa_nil))
    (pss_cons (ps_for PassesOwn.never rfl (pi_range1 (by rfl) B.range (pa_cons (pv 3) pa_nil)) (pg_name (i := 7) sc_law.nd rfl (Or.inl rfl)) (pss_cons (ps_set (i := 8) sc_law.nd rfl (Or.inl rfl) (pe_lst pa_nil))
      (pss_cons (ps_for PassesOwn.never rfl (pi_range1 (by rfl) B.range (pa_cons (pv 2) pa_nil)) (pg_name (i := 9) sc_law.nd rfl (Or.inl rfl)) (pss_cons (ps_set (i := 10) sc_law.nd rfl (Or.inl rfl) (pe_fn G.at_ (hr.mono (by decide)) (by rfl) (pa_cons (pv 0) (pa_cons (pe_op op_add (pe_op op_add pe_int (pe_op op_mul (pv 7) (pv 2))) (pv 9)) pa_nil))))
        (pss_cons (ps_set (i := 11) sc_law.nd rfl (Or.inl rfl) pe_non)
        (pss_cons (ps_if ((pw_and (pt_cmpR op_gt (pe_op op_mod (pv 10) pe_int) pe_int (nomark _)) (pw_and1 ((pw_or (pt_cmpR op_notIn_seq (pv 7) (pv 4) (by with_unfolding_all rfl)) (pw_or1 (pt_cmpR op_in_seq (pv 9) (pv 5) (by with_unfolding_all rfl))))).pt))).pt (pss_one (ps_set (i := 11) sc_law.nd rfl (Or.inl rfl) (pe_op op_sub (pe_op op_mod (pe_op op_fdiv (pv 10) pe_int) pe_int) pe_int))) pss_nil) hA))))
      (pss_one (ps_expr (pe_bm PySem.F.plainAttrs_list PySem.F.slot_list_append PySem.F.type_list_append mt_append (pv 6) (pa_cons (pv 8) pa_nil))))))) h9), ?_⟩
  intro m cnt sl al bl sn hs ts v1 v6 v7 v8 v9 v10 v11 v12 v13 v14 v15 v16 H1 hsl hal hbl hin hhl htl hm1 hm2 hc1 hc2 htm
  refine ⟨by decide, fun l hl => ?_⟩
  have s1 : Same H1 (upd H1 l (.lst [])) := (Same.refl H1).upd hl
  have a1 : (upd H1 l (.lst [])) l = some (.lst []) := upd_same
  generalize upd H1 l (.lst []) = H1' at s1 a1
  refine ⟨_, rfl, cnt, rfl, by omega, by omega, ?_⟩
  refine for_range (fun i σ H2 => ∃ (as : List Addr) (T : HTab) (w7 w8 w9 w10 w11 : Option V), σ = [some (.ref sl), v1, some (.int m), some (.int cnt), some (.ref al), some (.ref bl), some (.ref l), w7, w8, w9, w10, w11, v12, v13, v14, v15, v16] ∧ Same H1 H2 ∧ Own H2 l as T ∧ (∀ x ∈ as, H1 x = none) ∧ Wide m T ∧ T.length = i)
    ⟨[], [], v7, v8, v9, v10, v11, rfl, s1, ⟨a1, rfl, by simp, fun i b r e => by simp at e⟩, fun x hx => (nomatch hx), fun i r e => (nomatch e), rfl⟩ ?_ ?_
  · rintro i σ H2 hi ⟨as, T, w7, w8, w9, w10, w11, rfl, s2, o2, fr, hw, hTl⟩
    refine ⟨by decide, fun rw' hrw => ?_⟩
    have s3 : Same H2 (upd H2 rw' (.lst [])) := (Same.refl H2).upd hrw
    have a3 : (upd H2 rw' (.lst [])) rw' = some (.lst (([] : HRow).map cellV)) := upd_same
    generalize upd H2 rw' (.lst []) = H3 at s3 a3
    refine ⟨_, rfl, m, rfl, by omega, by omega, ?_⟩
    refine for_range (fun i2 σ H4 => ∃ (r : HRow) (w9 w10 w11 : Option V), σ = [some (.ref sl), v1, some (.int m), some (.int cnt), some (.ref al), some (.ref bl), some (.ref l), some (.int (0 + (i : Int))), some (.ref rw'), w9, w10, w11, v12, v13, v14, v15, v16] ∧ Same H2 H4 ∧ H4 rw' = some (.lst (r.map cellV)) ∧ r.length = i2) ⟨[], w9, w10, w11, rfl, s3, a3, rfl⟩ ?_ ?_
    · rintro i2 σ H4 hi2 ⟨r, x9, x10, x11, rfl, s4, a4, hrl⟩
      have s14 := s2.trans s4
      refine ⟨_, rfl, _, rfl, _, rfl, _, _, rfl, rfl, .inl ⟨by omega, by omega⟩, _, _, rfl, rfl, _, rfl, _, _, rfl, rfl, sl, sn, _, rfl, SqL.of (s14 _ _ hsl), ?_, fun n => ?_⟩
      · have : 0 ≤ (0 + (i : Int)) * m := Int.mul_nonneg (by omega) (by omega)
        show 0 ≤ 2 + (0 + (i : Int)) * m + (0 + (i2 : Int))
        omega
      have nxt : ∀ c : Option Int, Same H2 (upd H4 rw' (.lst ((r ++ [c]).map cellV))) ∧ (upd H4 rw' (.lst ((r ++ [c]).map cellV))) rw' = some (.lst ((r ++ [c]).map cellV)) ∧ (r ++ [c]).length = i2 + 1 := fun c => ⟨s4.put hrw, upd_same, by rw [List.length_append, hrl]; rfl⟩
      refine ⟨_, rfl, _, _, rfl, rfl, (show (0 : Int) < 3 by decide), _, _, rfl, rfl, _, rfl, ?_⟩
      refine ite2 (fun e1 => ?_) (fun e1 => rA _ rw' r none _ _ _ _ _ _ _ _ _ _ _ _ _ _ _ H4 a4 (by omega) ⟨r ++ [none], _, _, _, rfl, nxt none⟩)
      refine ⟨_, rfl, _, rfl, al, _, rfl, .inl (SqL.of (s14 _ _ hal)), rfl, ints_flat hs, _, rfl, ?_⟩
      refine ite2 (fun e2 => ?_) (fun e2 => ?_)
      · exact ⟨_, rfl, _, _, rfl, rfl, ⟨by decide, by decide⟩, _, _, rfl, rfl, (show (0 : Int) < 7 by decide), _, _, rfl, rfl, rA _ rw' r (some (n / 3 % 7 - 3)) _ _ _ _ _ _ _ _ _ _ _ _ _ _ _ H4 a4 (by omega) ⟨r ++ [_], _, _, _, rfl, nxt _⟩⟩
      · refine ⟨_, rfl, _, rfl, bl, _, rfl, .inl (SqL.of (s14 _ _ hbl)), rfl, ints_flat ts, _, rfl, ?_⟩
        refine ite2 (fun e3 => ?_) (fun e3 => rA _ rw' r none _ _ _ _ _ _ _ _ _ _ _ _ _ _ _ H4 a4 (by omega) ⟨r ++ [none], _, _, _, rfl, nxt none⟩)
        exact ⟨_, rfl, _, _, rfl, rfl, ⟨by decide, by decide⟩, _, _, rfl, rfl, (show (0 : Int) < 7 by decide), _, _, rfl, rfl, rA _ rw' r (some (n / 3 % 7 - 3)) _ _ _ _ _ _ _ _ _ _ _ _ _ _ _ H4 a4 (by omega) ⟨r ++ [_], _, _, _, rfl, nxt _⟩⟩
    · rintro σ H4 ⟨r, x9, x10, x11, rfl, s4, a4, hrl⟩
      have o4 := o2.same s4
      have nb : rw' ∉ l :: as := fun z => by
        rcases List.mem_cons.mp z with z | z
        · rw [z, o2.lst] at hrw; cases hrw
        · obtain ⟨r, e⟩ := o2.mem z
          rw [hrw] at e; cases e
      refine ⟨_, rfl, .inl ⟨rfl, _, SqL.of o4.lst⟩, _, rfl, l, _, _, rfl, rfl, o4.lst, ?_, ?_⟩
      · rw [List.length_map, o2.len]; exact Nat.lt_of_le_of_lt (show T.length ≤ 41 by omega) (by decide)
      have em : as.map V.ref ++ [V.ref rw'] = (as ++ [rw']).map V.ref := by rw [List.map_append]; rfl
      rw [em]
      refine ⟨as ++ [rw'], T ++ [r], _, _, _, _, _, rfl, (s2.trans s4).put hl, o4.push a4 nb, fun x hx => ?_, fun j q e => ?_, by rw [List.length_append, hTl]; rfl⟩
      · rcases List.mem_append.mp hx with z | z
        · exact fr x z
        · have : x = rw' := by simpa using z
          rw [this]; exact s2.free hrw
      · by_cases hj : j < T.length
        · rw [List.getElem?_append_left hj] at e
          exact hw j q e
        · rw [List.getElem?_append_right (by omega)] at e
          have hj2 : j - T.length = 0 := by
            have := (List.getElem?_eq_some_iff.mp e).1
            simp at this; omega
          rw [hj2] at e
          cases e
          omega
  · rintro σ H2 ⟨as, T, w7, w8, w9, w10, w11, rfl, s2, o2, fr, hw, hTl⟩
    refine r9 m cnt sl l al bl as T sn hs ts _ _ _ _ _ _ _ _ _ _ _ H2 (s2 _ _ hsl) o2 hw (s2 _ _ hal) (s2 _ _ hbl) (fun z => ?_) (fun z => ?_) (fun h hh => ?_) hhl htl hm1 hm2 (by omega) htm
    · rcases List.mem_cons.mp z with z | z
      · rw [z, hl] at hal; cases hal
      · rw [fr _ z] at hal; cases hal
    · rcases List.mem_cons.mp z with z | z
      · rw [z, hl] at hbl; cases hbl
      · rw [fr _ z] at hbl; cases hbl
    · have := hin h hh
      omega
end

end Hf

namespace Hf
open PySem PySem.Spec PyProof.Rows L2
def spLaw (K : PySem.W.Frag) : Sp := fun vs H Q _ => ∃ (a : Addr) (ns : List Int), vs = [.ref a] ∧ SqL K H a (ns.map V.int) ∧ ns.length ≤ 63 ∧ ∀ H', Q (.bl true) H'
theorem boot_max' : bootBuiltins "max" = some (.builtin "max") := by decide +kernel
section
variable {P : Program} {w : World} {K : PySem.W.Frag} {mg : Str → Option Value} {base : Heap}
theorem ok_law (B : Blt mg) (hmax : mg "max" = none) (G : Defs P w K mg base) {f : Addr} {fd : FuncData} (F : Fun K "law" "law" s_law f fd) : FnOk P w K mg base CX0 5 f fd ["_law_script"] (spLaw K) := by
  refine F.ok sc_law (fun vs H Q E h => ?_) (fun cdv A outer s H vs Q E hr h => ?_)
  · obtain ⟨a, ns, rfl, _⟩ := h
    rfl
  · obtain ⟨a, ns, rfl, hS, hn, k⟩ := h
    obtain ⟨t7, h7, r7⟩ := law7 (P := P) (w := w) (K := K) (mg := mg) (base := base) B G (f := f) (cdv := cdv) (A := A) (outer := outer) (s := s) (H := H) (Q := Q) (E := E) (nx := fun _ H' => Q .non H') hr k
    refine ⟨_, pss_cons (ps_set (i := 0) sc_law.nd rfl (Or.inl rfl) (pe_slice sl_list (pv 0) po_none (po_some pe_int)))
      (pss_cons (ps_set (i := 1) sc_law.nd rfl (Or.inr rfl) (pe_fn G.at_ (hr.mono (by decide)) (by rfl) (pa_cons (pv 0) (pa_cons pe_int pa_nil))))
      (pss_cons (ps_set (i := 2) sc_law.nd rfl (Or.inl rfl) (pe_op op_add pe_int (pe_op op_mod (pv 1) pe_int)))
      (pss_cons (ps_set (i := 3) sc_law.nd rfl (Or.inl rfl) (pe_op op_add pe_int (pe_op op_mod (pe_op op_fdiv (pv 1) pe_int) pe_int)))
      (pss_cons (ps_comp (i := 4) (sc := defScope s_law) (XN := NL) (own := ["_law_hand"]) (fr := ["_law_seed"]) (js := [1]) sc_law.nd rfl rfl rfl rfl rfl rfl (⟨rfl, by decide +kernel, by decide +kernel, by decide +kernel, rfl, by decide +kernel⟩) (pi_range1 (by rfl) B.range (pa_cons (pv 3) pa_nil)) (fun _ _ _ _ _ => (pg_name (i := 0) (show List.Nodup (["_law_hand", "_law_seed"] : List Str) by decide +kernel) rfl (Or.inl rfl))) (fun _ _ _ _ _ => (pts_one (pt_cmpR op_gt (pe_fn G.draw (hr.mono (by decide)) (by rfl) (pa_cons (pe_op op_add (pv 1) (pe_op op_mul pe_int (pv 0))) (pa_cons pe_int (pa_cons pe_int pa_nil)))) pe_int (nomark _)))) (fun _ _ _ _ _ => (pv 0)))
      (pss_cons (ps_set (i := 5) sc_law.nd rfl (Or.inr rfl) (pe_comp (sc := defScope s_law) (XN := NL) (own := ["_law_task"]) (fr := ["_law_seed"]) (js := [1]) rfl rfl rfl (⟨rfl, by decide +kernel, by decide +kernel, by decide +kernel, rfl, by decide +kernel⟩) (pi_range1 (by rfl) B.range (pa_cons (pv 2) pa_nil)) (fun _ _ _ _ _ => (pg_name (i := 0) (show List.Nodup (["_law_task", "_law_seed"] : List Str) by decide +kernel) rfl (Or.inl rfl))) (fun _ _ _ _ _ => (pts_one (pt_cmpR op_gt (pe_fn G.draw (hr.mono (by decide)) (by rfl) (pa_cons (pe_op op_add (pv 1) (pe_op op_mul pe_int (pv 0))) (pa_cons pe_int (pa_cons pe_int pa_nil)))) pe_int (nomark _)))) (fun _ _ _ _ _ => (pv 0))))
      (pss_cons (ps_set (i := 5) sc_law.nd rfl (Or.inr rfl) (pe_slice sl_list (pv 5) po_none (po_some (pe_callB (call_max2 rfl) (by rfl) hmax boot_max' (pa_cons pe_int (pa_cons (pe_op op_sub (pe_callB call_len_seq (by rfl) B.len boot_len (pa_cons (pv 4) pa_nil)) pe_int) pa_nil)))))) h7)))))), ?_⟩
    have e0 : cutV (ns.map V.int) none (some 1000) = (ns.take 1000).map V.int := cut_to ns 1000
    refine ⟨_, rfl, 1000, rfl, a, _, rfl, hS, fun sl hsl0 => ?_⟩
    rw [e0, List.take_of_length_le (show ns.length ≤ 1000 by omega)]
    have hsl1 : (upd H sl (.lst (ns.map V.int))) sl = some (.lst (ns.map V.int)) := upd_same
    generalize upd H sl (.lst (ns.map V.int)) = H1 at hsl1
    refine ⟨_, rfl, sl, ns, 0, rfl, SqL.of hsl1, by decide, fun seed => ?_⟩
    have m0 := Int.emod_nonneg seed (b := 7) (by decide)
    have m1 := Int.emod_lt_of_pos seed (b := 7) (by decide)
    have c0 := Int.emod_nonneg (seed / 7) (b := 7) (by decide)
    have c1 := Int.emod_lt_of_pos (seed / 7) (b := 7) (by decide)
    refine ⟨_, rfl, _, _, rfl, rfl, (show (0 : Int) < 7 by decide), _, _, rfl, rfl, ?_⟩
    refine ⟨_, rfl, _, _, rfl, rfl, ⟨by decide, by decide⟩, _, _, rfl, rfl, (show (0 : Int) < 7 by decide), _, _, rfl, rfl, ?_⟩
    dsimp only
    generalize hm : 1 + seed % 7 = m
    generalize hcn : 1 + seed / 7 % 7 = cnt
    refine ⟨_, rfl, cnt, rfl, by omega, by omega, ?_⟩
    refine comp_range_by (fun i ys H2 => Same H1 H2 ∧ ∃ us : List Int, ys = us.map V.int ∧ us.length ≤ i ∧ ∀ x ∈ us, 0 ≤ x ∧ x < cnt) ⟨Same.refl H1, [], rfl, Nat.le_refl _, fun x hx => (List.not_mem_nil hx).elim⟩ (by omega) ?_ ?_ ?_
    · rintro i ys H2 ⟨_, us, rfl, hu, _⟩
      rw [List.length_map]; exact hu
    · rintro ys H2 ⟨s2, hs, rfl, hhl, hin⟩ al hal
      have s3 := s2.upd hal (o := HO.lst (hs.map V.int))
      have a3 : (upd H2 al (.lst (hs.map V.int))) al = some (.lst (hs.map V.int)) := upd_same
      generalize upd H2 al (.lst (hs.map V.int)) = H3 at s3 a3
      refine ⟨_, rfl, m, rfl, by omega, by omega, ?_⟩
      refine comp_range_by (fun i ys H4 => Same H3 H4 ∧ ∃ us : List Int, ys = us.map V.int ∧ us.length ≤ i ∧ ∀ x ∈ us, 0 ≤ x ∧ x < m) ⟨Same.refl H3, [], rfl, Nat.le_refl _, fun x hx => (List.not_mem_nil hx).elim⟩ (by omega) ?_ ?_ ?_
      · rintro i ys H4 ⟨_, us, rfl, hu, _⟩
        rw [List.length_map]; exact hu
      · rintro ys H4 ⟨s4, ts, rfl, htl, htin⟩ b0 hb0
        have s5 := s4.upd hb0 (o := HO.lst (ts.map V.int))
        have a5 : (upd H4 b0 (.lst (ts.map V.int))) b0 = some (.lst (ts.map V.int)) := upd_same
        generalize upd H4 b0 (.lst (ts.map V.int)) = H5 at s5 a5
        refine ⟨_, rfl, _, rfl, al, _, rfl, .inl (SqL.of (s5 _ _ a3)), _, _, rfl, rfl, 0, _, rfl, _, rfl, b0, _, rfl, SqL.of a5, fun bl hbl => ?_⟩
        obtain ⟨us, hus, husl, hsub⟩ := cut_intsM ts none (some (if ((hs.map V.int).length : Int) - 1 > 0 then ((hs.map V.int).length : Int) - 1 else 0))
        rw [hus]
        have s6 : Same H5 (upd H5 bl (.lst (us.map V.int))) := (Same.refl H5).upd hbl
        have a6 : (upd H5 bl (.lst (us.map V.int))) bl = some (.lst (us.map V.int)) := upd_same
        generalize upd H5 bl (.lst (us.map V.int)) = H6 at s6 a6
        exact r7 m cnt sl al bl ns hs us _ _ _ _ _ _ _ _ _ _ _ _ H6 (s6 _ _ (s5 _ _ (s3 _ _ hsl1))) (s6 _ _ (s5 _ _ a3)) a6 hin (by omega) (by omega) (by omega) (by omega) (by omega) (by omega) fun x hx => htin x (hsub x hx)
      · rintro i ys H4 hi ⟨s4, us, rfl, hu, hin2⟩
        refine ⟨_, rfl, _, rfl, _, _, rfl, rfl, .inl ⟨by decide, by decide⟩, _, _, rfl, rfl, _, 1013, 3, rfl, by decide, by decide, fun r _ _ => ⟨_, _, rfl, rfl, _, rfl, ?_⟩⟩
        refine ite2 (fun h1 => ?_) (fun h1 => ?_)
        · refine ⟨_, rfl, s4, us ++ [0 + (i : Int)], app_int us _, by rw [List.length_append, List.length_singleton]; omega, fun x hx => ?_⟩
          rcases List.mem_append.mp hx with z | z
          · exact hin2 x z
          · have : x = 0 + (i : Int) := by simpa using z
            omega
        · exact ⟨s4, us, rfl, by omega, hin2⟩
    · rintro i ys H2 hi ⟨s2, us, rfl, hu, hin⟩
      refine ⟨_, rfl, _, rfl, _, _, rfl, rfl, .inl ⟨by decide, by decide⟩, _, _, rfl, rfl, _, 1009, 4, rfl, by decide, by decide, fun r _ _ => ⟨_, _, rfl, rfl, _, rfl, ?_⟩⟩
      refine ite2 (fun h1 => ?_) (fun h1 => ?_)
      · refine ⟨_, rfl, s2, us ++ [0 + (i : Int)], app_int us _, by rw [List.length_append, List.length_singleton]; omega, fun x hx => ?_⟩
        rcases List.mem_append.mp hx with z | z
        · exact hin x z
        · have : x = 0 + (i : Int) := by simpa using z
          omega
      · exact ⟨s2, us, rfl, by omega, hin⟩
end

end Hf

namespace Hf
open PySem PySem.Spec PyProof.Rows L2
/-- a def as the top has written it -/
def DefK (K : PySem.W.Frag) (x : Str) (st : Stmt) : Prop := ∃ (f : Addr) (oc : Value) (od an : Option Addr) (osl : Array (Option Value)) (kV doc pm cdv ct : Value),
  PySem.W.nsIn K mainGlobals x = some (some (.ref f)) ∧ K.lookup f = some ⟨oc, od, .func (PySem.W.fnOf x x (defArgs st) (defBody st) (defScope st) .none kV doc pm an cdv ct), osl⟩ ∧ PySem.W.codeIn K cdv x = true ∧ PySem.W.keepIn K (.ref f) = true
theorem defK_mk {K : PySem.W.Frag} {x : Str} {st : Stmt} {f : Addr} {oc : Value} {od an : Option Addr} {osl : Array (Option Value)} {kV doc pm cdv ct : Value} (a : PySem.W.nsIn K mainGlobals x = some (some (.ref f)))
    (l : K.lookup f = some ⟨oc, od, .func (PySem.W.fnOf x x (defArgs st) (defBody st) (defScope st) .none kV doc pm an cdv ct), osl⟩) (c : PySem.W.codeIn K cdv x = true) (k : PySem.W.keepIn K (.ref f) = true) : DefK K x st :=
  ⟨f, oc, od, an, osl, kV, doc, pm, cdv, ct, a, l, c, k⟩
theorem DefK.is {K : PySem.W.Frag} {x : Str} {st : Stmt} {h : Heap} {mg : Str → Option Value} {ps : List Str} (D : DefK K x st) (X : K.In h) (G : h.Ns mainGlobals mg)
    (hb : ∀ (kV doc pm : Value) (an : Option Addr) (cdv ct : Value) (us : List Value), us.length = ps.length → bindArgs (PySem.W.fnOf x x (defArgs st) (defBody st) (defScope st) .none kV doc pm an cdv ct) ⟨us, []⟩ = pure (ps.zip us)) : DefIs K mg x st ps := by
  obtain ⟨f, oc, od, an, osl, kV, doc, pm, cdv, ct, a, l, c, k⟩ := D
  have F := fun_mk (st := st) l c k
  exact ⟨f, _, F, F.binds hb, PySem.W.mg_of X G a⟩
theorem all_mk {l : PySem.W.OpenLaw} {w : World} {K : PySem.W.Frag} {h : Heap} {mg : Str → Option Value} {fa : Addr} (X : K.In h) (G : h.Ns mainGlobals mg) (hfa : mg "law" = some (.ref fa)) (d_check_table : DefK K "check_table" s_check_table) (d_rises_within : DefK K "rises_within" s_rises_within) (d_all_told : DefK K "all_told" s_all_told) (d_shows_short : DefK K "shows_short" s_shows_short) (d_draw : DefK K "_law_draw" s_draw) (d_whole : DefK K "_law_whole" s_whole) (d_at : DefK K "_law_at" s_at) (d_copies : DefK K "_law_copies" s_copies) (d_same_cost : DefK K "_law_same_cost" s_same_cost) (d_same_row : DefK K "_law_same_row" s_same_row) (d_same_table : DefK K "_law_same_table" s_same_table) (d_rising : DefK K "_law_rising" s_rising) (d_short_shown : DefK K "_law_short_shown" s_short_shown) (d_spoilt : DefK K "_law_spoilt" s_spoilt) (d_law : DefK K "law" s_law) (z_len : PySem.W.nsIn K mainGlobals "len" = some none) (z_range : PySem.W.nsIn K mainGlobals "range" = some none) (z_isinstance : PySem.W.nsIn K mainGlobals "isinstance" = some none) (z_int : PySem.W.nsIn K mainGlobals "int" = some none) (z_bool : PySem.W.nsIn K mainGlobals "bool" = some none) (z_list : PySem.W.nsIn K mainGlobals "list" = some none) (z_all : PySem.W.nsIn K mainGlobals "all" = some none) (z_min : PySem.W.nsIn K mainGlobals "min" = some none) (z_set : PySem.W.nsIn K mainGlobals "set" = some none) (z_zip : PySem.W.nsIn K mainGlobals "zip" = some none) (z_enumerate : PySem.W.nsIn K mainGlobals "enumerate" = some none) (z_sum : PySem.W.nsIn K mainGlobals "sum" = some none) (z_vErr : PySem.W.nsIn K mainGlobals "ValueError" = some none) (z_max : PySem.W.nsIn K mainGlobals "max" = some none) (z_sorted : PySem.W.nsIn K mainGlobals "sorted" = some none) (z_reversed : PySem.W.nsIn K mainGlobals "reversed" = some none) :
    ∃ fd : FuncData, (∀ (s : Shared) (v : Value), BindsTo s fd ⟨[v], []⟩ [("_law_script", v)]) ∧ ∀ base : Heap, K.In base → base.Ns mainGlobals mg → FnOk l.prog w K mg base CX0 5 fa fd ["_law_script"] (spLaw K) := by
  have B : Blt mg := ⟨PySem.W.mg_none_of X G z_len, PySem.W.mg_none_of X G z_range, PySem.W.mg_none_of X G z_isinstance, PySem.W.mg_none_of X G z_int, PySem.W.mg_none_of X G z_bool, PySem.W.mg_none_of X G z_list, PySem.W.mg_none_of X G z_all, PySem.W.mg_none_of X G z_min, PySem.W.mg_none_of X G z_set, PySem.W.mg_none_of X G z_zip, PySem.W.mg_none_of X G z_enumerate, PySem.W.mg_none_of X G z_sum, PySem.W.mg_none_of X G z_vErr⟩
  have i_check_table := d_check_table.is X G (ps := ["many", "rows"]) fun _ _ _ _ _ _ us hl => match us, hl with | [_, _], _ => rfl
  have i_rises_within := d_rises_within.is X G (ps := ["numbers", "count"]) fun _ _ _ _ _ _ us hl => match us, hl with | [_, _], _ => rfl
  have i_all_told := d_all_told.is X G (ps := ["row", "tasks"]) fun _ _ _ _ _ _ us hl => match us, hl with | [_, _], _ => rfl
  have i_shows_short := d_shows_short.is X G (ps := ["many", "rows", "hands", "tasks"]) fun _ _ _ _ _ _ us hl => match us, hl with | [_, _, _, _], _ => rfl
  have i_draw := d_draw.is X G (ps := ["_law_number", "_law_prime", "_law_many"]) fun _ _ _ _ _ _ us hl => match us, hl with | [_, _, _], _ => rfl
  have i_whole := d_whole.is X G (ps := ["_law_found"]) fun _ _ _ _ _ _ us hl => match us, hl with | [_], _ => rfl
  have i_at := d_at.is X G (ps := ["_law_script", "_law_k"]) fun _ _ _ _ _ _ us hl => match us, hl with | [_, _], _ => rfl
  have i_copies := d_copies.is X G (ps := ["_law_rows"]) fun _ _ _ _ _ _ us hl => match us, hl with | [_], _ => rfl
  have i_same_cost := d_same_cost.is X G (ps := ["_law_one", "_law_cost"]) fun _ _ _ _ _ _ us hl => match us, hl with | [_, _], _ => rfl
  have i_same_row := d_same_row.is X G (ps := ["_law_one", "_law_row"]) fun _ _ _ _ _ _ us hl => match us, hl with | [_, _], _ => rfl
  have i_same_table := d_same_table.is X G (ps := ["_law_found", "_law_rows"]) fun _ _ _ _ _ _ us hl => match us, hl with | [_, _], _ => rfl
  have i_rising := d_rising.is X G (ps := ["_law_row", "_law_most"]) fun _ _ _ _ _ _ us hl => match us, hl with | [_, _], _ => rfl
  have i_short_shown := d_short_shown.is X G (ps := ["_law_many", "_law_rows", "_law_hands", "_law_tasks"]) fun _ _ _ _ _ _ us hl => match us, hl with | [_, _, _, _], _ => rfl
  have i_spoilt := d_spoilt.is X G (ps := ["_law_hands", "_law_tasks", "_law_way", "_law_spot", "_law_most"]) fun _ _ _ _ _ _ us hl => match us, hl with | [_, _, _, _, _], _ => rfl
  obtain ⟨f, oc, od, an, osl, kV, doc, pm, cdv, ct, aL, lL, cL, kL⟩ := d_law
  have e := hfa.symm.trans (PySem.W.mg_of X G aL)
  cases e
  have FL := fun_mk (st := s_law) lL cL kL
  refine ⟨PySem.W.fnOf "law" "law" (defArgs s_law) (defBody s_law) (defScope s_law) .none kV doc pm an cdv ct, fun s v => .of_eq rfl, fun base _ _ => ?_⟩
  have g_check := ok_check_table (P := l.prog) (w := w) (base := base) B i_check_table
  have g_rises := ok_rises_within (P := l.prog) (w := w) (base := base) B i_rises_within
  have g_told := ok_all_told (P := l.prog) (w := w) (base := base) B i_all_told
  have g_shows := ok_shows_short (P := l.prog) (w := w) (base := base) B g_check g_rises g_told i_shows_short
  have g_draw := ok_draw (P := l.prog) (w := w) (base := base) i_draw
  have g_whole := ok_whole (P := l.prog) (w := w) (base := base) B i_whole
  have g_at := ok_at (P := l.prog) (w := w) (base := base) B i_at
  have g_copies := ok_copies (P := l.prog) (w := w) (base := base) B i_copies
  have g_cost := ok_same_cost (P := l.prog) (w := w) (base := base) B g_whole i_same_cost
  have g_row := ok_same_row (P := l.prog) (w := w) (base := base) B g_cost i_same_row
  have g_tab := ok_same_table (P := l.prog) (w := w) (base := base) B g_row i_same_table
  have g_rising := ok_rising (P := l.prog) (w := w) (base := base) B i_rising
  have g_shown := ok_short_shown (P := l.prog) (w := w) (base := base) B g_rising i_short_shown
  have g_spoilt := ok_spoilt (P := l.prog) (w := w) (base := base) B (PySem.W.mg_none_of X G z_reversed) (PySem.W.mg_none_of X G z_sorted) i_spoilt
  exact ok_law B (PySem.W.mg_none_of X G z_max) ⟨g_at, g_draw, g_copies, g_tab, g_shown, g_spoilt, g_shows⟩ FL
theorem walk {l : PySem.W.OpenLaw} {q : Program} {loose : List Str} {XP : (Str → Option Value) → Heap → Prop} {YP : World → Heap → Prop} {d : DefRec} {K : Params → PySem.W.Frag} (hn : l.most = some 63) (hdf : d.params.defaults = [])
    (hY : ∀ (w : World) (h : Heap), YP w h → (K w.params).In h)
    (F : ∀ (w : World) (mg : Str → Option Value) (fa : Addr) (h : Heap), (K w.params).In h → h.Ns mainGlobals mg → mg d.name = some (.ref fa) →
      ∃ fd : FuncData, (∀ (s : Shared) (u : Value), BindsTo s fd ⟨[u], []⟩ [("_law_script", u)]) ∧ ∀ base : Heap, (K w.params).In base → base.Ns mainGlobals mg → FnOk l.prog w (K w.params) mg base CX0 5 fa fd ["_law_script"] (spLaw (K w.params))) :
    PySem.W.WalkO q loose XP YP l.row.toRowW d [] (fun f vs => PySem.call f vs) :=
  L2.walk_of (n := 63) (k := 5) (x := "_law_script") (CX := fun _ => CX0) (sp := fun w => spLaw (K w.params)) hn (by decide) hdf ⟨rfl, by decide, by decide⟩ hY F (fun _ _ a ns hl _ hS => ⟨a, ns, rfl, hS, hl, fun _ => rfl⟩) fun _ _ _ _ _ z => z
end Hf
open PySem PySem.W PyProof.Rows
set_option maxRecDepth 100000 in
set_option maxHeartbeats 0 in
theorem PySem.Challenge.cw_hirefair_k03_shows_short_holds : PySem.Challenge.rw_hirefair_k03_shows_short.Holds := by
  w_on; o_law; k_head; (case hw => w_witness2)
  k_fill
  refine Hf.walk (l := PySem.Challenge.rw_hirefair_k03_shows_short) rfl rfl (fun w h Y => PySem.W.kIn_of Y) ?F
  case F =>
    intro w mg fa h KX G hmg
    refine' Hf.all_mk KX G hmg ?d_check_table ?d_rises_within ?d_all_told ?d_shows_short ?d_draw ?d_whole ?d_at ?d_copies ?d_same_cost ?d_same_row ?d_same_table ?d_rising ?d_short_shown ?d_spoilt ?d_law ?z_len ?z_range ?z_isinstance ?z_int ?z_bool ?z_list ?z_all ?z_min ?z_set ?z_zip ?z_enumerate ?z_sum ?z_vErr ?z_max ?z_sorted ?z_reversed
    (case d_check_table => (refine' Hf.defK_mk ?a ?l ?c ?k; (case a => k_is); (case l => k_is); (case c => k_is); (case k => k_is)))
    (case d_rises_within => (refine' Hf.defK_mk ?a ?l ?c ?k; (case a => k_is); (case l => k_is); (case c => k_is); (case k => k_is)))
    (case d_all_told => (refine' Hf.defK_mk ?a ?l ?c ?k; (case a => k_is); (case l => k_is); (case c => k_is); (case k => k_is)))
    (case d_shows_short => (refine' Hf.defK_mk ?a ?l ?c ?k; (case a => k_is); (case l => k_is); (case c => k_is); (case k => k_is)))
    (case d_draw => (refine' Hf.defK_mk ?a ?l ?c ?k; (case a => k_is); (case l => k_is); (case c => k_is); (case k => k_is)))
    (case d_whole => (refine' Hf.defK_mk ?a ?l ?c ?k; (case a => k_is); (case l => k_is); (case c => k_is); (case k => k_is)))
    (case d_at => (refine' Hf.defK_mk ?a ?l ?c ?k; (case a => k_is); (case l => k_is); (case c => k_is); (case k => k_is)))
    (case d_copies => (refine' Hf.defK_mk ?a ?l ?c ?k; (case a => k_is); (case l => k_is); (case c => k_is); (case k => k_is)))
    (case d_same_cost => (refine' Hf.defK_mk ?a ?l ?c ?k; (case a => k_is); (case l => k_is); (case c => k_is); (case k => k_is)))
    (case d_same_row => (refine' Hf.defK_mk ?a ?l ?c ?k; (case a => k_is); (case l => k_is); (case c => k_is); (case k => k_is)))
    (case d_same_table => (refine' Hf.defK_mk ?a ?l ?c ?k; (case a => k_is); (case l => k_is); (case c => k_is); (case k => k_is)))
    (case d_rising => (refine' Hf.defK_mk ?a ?l ?c ?k; (case a => k_is); (case l => k_is); (case c => k_is); (case k => k_is)))
    (case d_short_shown => (refine' Hf.defK_mk ?a ?l ?c ?k; (case a => k_is); (case l => k_is); (case c => k_is); (case k => k_is)))
    (case d_spoilt => (refine' Hf.defK_mk ?a ?l ?c ?k; (case a => k_is); (case l => k_is); (case c => k_is); (case k => k_is)))
    (case d_law => (refine' Hf.defK_mk ?a ?l ?c ?k; (case a => k_is); (case l => k_is); (case c => k_is); (case k => k_is)))
    (case z_len => k_is)
    (case z_range => k_is)
    (case z_isinstance => k_is)
    (case z_int => k_is)
    (case z_bool => k_is)
    (case z_list => k_is)
    (case z_all => k_is)
    (case z_min => k_is)
    (case z_set => k_is)
    (case z_zip => k_is)
    (case z_enumerate => k_is)
    (case z_sum => k_is)
    (case z_vErr => k_is)
    (case z_max => k_is)
    (case z_sorted => k_is)
    (case z_reversed => k_is)
