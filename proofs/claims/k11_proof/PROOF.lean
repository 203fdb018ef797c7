import PyProof.Rows.All
import Wide.All
import OpenK.AllK
import Wide.FinOn
import Lean
import PyProof.EqAt
import PyProof.EqKinds
import PyProof.TupleCall
import KE.KIntText
import PyProof.StrLawsChain
import PySem.Challenge.RW_hirefair_k11_lines_refused
set_option Elab.async false
set_option linter.all false
set_option maxRecDepth 100000
/-! THE HAND LAYER, for ints, bools, texts, own classes, LISTS and tuples (index, slices, in, append, pop ..), calls, loops. Paste it whole ahead of your own text; what your proof does not reach may be deleted. -/
namespace L2
open PySem PySem.Spec PyProof.Rows

/-- a key: an int or a str -/
abbrev Key := Sum Int Str
def keyIs : Key → Value → Bool
  | .inl k, v => Value.isInt k v
  | .inr x, v => Value.isStrOf x v
def keyH (w : World) : Key → Int
  | .inl k => hashInt k
  | .inr x => hashStr w x
theorem keyIs_shape : ∀ {k : Key} {v : Value}, keyIs k v = true → (∃ i t, k = Sum.inl i ∧ v = Value.int i t) ∨ (∃ x t, k = Sum.inr x ∧ v = Value.str x t)
  | .inl i, v, h => by
    obtain ⟨t, e⟩ := Value.isInt_shape (k := i) (v := v) h
    exact .inl ⟨i, t, rfl, e⟩
  | .inr x, v, h => by
    obtain ⟨t, e⟩ := Value.isStrOf_shape (x := x) (v := v) h
    exact .inr ⟨x, t, rfl, e⟩
theorem key_ll (a b : Int) : decide ((Sum.inl a : Key) = Sum.inl b) = (a == b) := by
  by_cases e : a = b
  · subst e; simp
  · have h : ¬ (Sum.inl a : Key) = Sum.inl b := fun q => e (Sum.inl.inj q)
    rw [decide_eq_false h]
    exact (beq_eq_false_iff_ne.mpr e).symm
theorem key_rr (a b : Str) : decide ((Sum.inr a : Key) = Sum.inr b) = decide (a = b) := by
  by_cases e : a = b
  · subst e; simp
  · have h : ¬ (Sum.inr a : Key) = Sum.inr b := fun q => e (Sum.inr.inj q)
    rw [decide_eq_false h, decide_eq_false e]
theorem key_lr (a : Int) (b : Str) : decide ((Sum.inl a : Key) = Sum.inr b) = false := decide_eq_false (fun q => nomatch q)
theorem key_rl (a : Str) (b : Int) : decide ((Sum.inr a : Key) = Sum.inl b) = false := decide_eq_false (fun q => nomatch q)

def mixKind (prog : Program) (w : World) : PySem.KeyKind prog w Key where
  is := keyIs
  hash := keyH w
  inj := fun v a b ha hb => by
    rcases keyIs_shape ha with ⟨i, t, rfl, rfl⟩ | ⟨x, t, rfl, rfl⟩
    · rcases keyIs_shape hb with ⟨j, u, rfl, e⟩ | ⟨y, u, rfl, e⟩
      · injection e with e1 _; rw [e1]
      · exact nomatch e
    · rcases keyIs_shape hb with ⟨j, u, rfl, e⟩ | ⟨y, u, rfl, e⟩
      · exact nomatch e
      · injection e with e1 _; rw [e1]
  byValue := fun k v h => by
    rcases keyIs_shape h with ⟨i, t, rfl, rfl⟩ | ⟨x, t, rfl, rfl⟩ <;> rfl
  pyHash := fun hv h => by
    rcases keyIs_shape hv with ⟨i, t, rfl, rfl⟩ | ⟨x, t, rfl, rfl⟩
    · exact wpAny_pyHash_int h
    · exact wpAny_pyHash_str h
  eqBool := fun hu hv h => by
    rcases keyIs_shape hu with ⟨i, t, rfl, rfl⟩ | ⟨x, t, rfl, rfl⟩
    · rcases keyIs_shape hv with ⟨j, u, rfl, rfl⟩ | ⟨y, u, rfl, rfl⟩
      · rw [key_ll] at h; exact wpAny_eqBool_int h
      · rw [key_lr] at h; exact SeqAt.EqAt.int_str i t y u _ _ _ _ h
    · rcases keyIs_shape hv with ⟨j, u, rfl, rfl⟩ | ⟨y, u, rfl, rfl⟩
      · rw [key_rl] at h; exact SeqAt.EqAt.str_int x t j u _ _ _ _ h
      · rw [key_rr] at h; exact wpAny_eqBool_str h
  «strs» := fun k x t v h => by
    rcases keyIs_shape h with ⟨i, u, rfl, e⟩ | ⟨y, u, rfl, e⟩
    · exact nomatch e
    · injection e with e1 _
      subst e1
      cases v <;> rfl

end L2

namespace L2
open PySem PySem.Spec PyProof.Rows

/-- a value, without the heap -/
inductive V where
  | non | bl (b : Bool) | int (i : Int) | str (x : Str) | byt (b : Array UInt8) | flt (b : UInt64) | ref (a : Addr) | ty (n : String)
  deriving DecidableEq

def RelV : V → Value → Prop
  | .non, u => u = Value.none
  | .bl b, u => u = Value.bool b
  | .int i, u => ∃ t, u = Value.int i t
  | .str x, u => ∃ t, u = Value.str x t
  | .byt b, u => ∃ t, u = Value.bytes b t
  | .flt b, u => ∃ t, u = Value.float b t
  | .ref a, u => u = Value.ref a
  | .ty n, u => u = Value.type n

abbrev Vals : List V → List Value → Prop := Paired RelV
theorem Vals.length {xs : List V} {us : List Value} (r : Vals xs us) : xs.length = us.length := Paired.length r
theorem Vals.get : ∀ {xs : List V} {us : List Value} {i : Nat} {x : V}, Vals xs us → xs[i]? = some x → ∃ u, us[i]? = some u ∧ RelV x u
  | _, _, _, _, .nil, e => by simp at e
  | _, _, 0, _, .cons r _, e => by simp at e; subst e; exact ⟨_, rfl, r⟩
  | _, _, i + 1, x, .cons _ t, e => by
    obtain ⟨u, h1, h2⟩ := Vals.get (i := i) (x := x) t (by simpa using e)
    exact ⟨u, by simpa using h1, h2⟩
theorem Vals.append : ∀ {xs ys : List V} {us ws : List Value}, Vals xs us → Vals ys ws → Vals (xs ++ ys) (us ++ ws)
  | _, _, _, _, .nil, s => s
  | _, _, _, _, .cons r t, s => .cons r (Vals.append t s)
theorem Vals.take : ∀ {xs : List V} {us : List Value} (n : Nat), Vals xs us → Vals (xs.take n) (us.take n)
  | _, _, 0, _ => .nil
  | _, _, _ + 1, .nil => .nil
  | _, _, n + 1, .cons r t => .cons r (Vals.take n t)
theorem Vals.drop : ∀ {xs : List V} {us : List Value} (n : Nat), Vals xs us → Vals (xs.drop n) (us.drop n)
  | _, _, 0, r => r
  | _, _, _ + 1, .nil => .nil
  | _, _, n + 1, .cons _ t => Vals.drop n t
def RelO : Option V → Option Value → Prop
  | some v, some u => RelV v u
  | none, none => True
  | _, _ => False
def KV {κ : Type} : List (κ × V) → List (κ × Value) → Prop := Paired fun (p : κ × V) (q : κ × Value) => p.1 = q.1 ∧ RelV p.2 q.2

/-- a key of a dict (00_mix): an int or a text -/
def kV : Key → V
  | .inl i => .int i
  | .inr x => .str x

/-- what stands at a tracked address -/
inductive HO where
  /-- a list -/
  | lst (xs : List V)
  /-- a tuple (never changes) -/
  | tup (xs : List V)
  /-- a dict whose keys are ints and texts; one whose keys are tuples of ints and texts (the empty one is both) -/
  | dK (kvs : List (Key × V)) | dT (kvs : List (List Key × V))
  /-- a set of ints: its members, its size -/
  | set (S : Int → Bool) (n : Nat)
  /-- an instance of the class at C, its dict at dx, its attributes -/
  | ins (C dx : Addr) (fs : List (Str × V))
  /-- the dict of the instance at x -/
  | own (x : Addr)
  /-- the dict of an exception -/
  | xd (fs : List (Str × V))
  /-- a bound method, f of x -/
  | met (f x : Addr)
  /-- a range object lo, lo + 1, .. below hi -/
  | rng (lo hi : Int)
  /-- a thing that is known to the object (the script; a dict while a loop walks it): read, never written while it is so -/
  | frz (o : Obj) (u : HO)
  /-- a code object's table -/
  | tbl (ps : Array Value)
  /-- any other thing, by what is true of its one object (a def of one's own: SetO a S n := HO.ext fun h => ..) -/
  | ext (φ : Heap → Prop)

abbrev Hp := Addr → Option HO
def upd (H : Hp) (a : Addr) (o : HO) : Hp := fun b => if b = a then some o else H b
theorem upd_same {H : Hp} {a : Addr} {o : HO} : upd H a o a = some o := by unfold upd; rw [if_pos rfl]
theorem upd_ne {H : Hp} {a b : Addr} {o : HO} (h : b ≠ a) : upd H a o b = H b := by unfold upd; rw [if_neg h]
theorem ne_of_none {H : Hp} {a b : Addr} {o : HO} (h : H a = some o) (h' : H b = none) : a ≠ b := by
  intro e; subst e; rw [h] at h'; cases h'

section
variable (P : Program) (w : World)
def ObjOk (H : Hp) (h : Heap) (a : Addr) : HO → Prop
  | .lst xs => xs.length ≤ sizeLine ∧ ∃ (its : List Value) (n : Nat), Vals xs its ∧ h.get? a = some { cls := .type "list", data := .seq its.toArray n }
  | .tup xs => xs.length ≤ sizeLine ∧ ∃ its : List Value, Vals xs its ∧ IsTup h a its.toArray
  | .dK kvs => kvs.length ≤ sizeLine ∧ (a == sysModules) = false ∧ ∃ vs, KV kvs vs ∧ h.DictOf (mixKind P w) a vs
  | .dT kvs => kvs.length ≤ sizeLine ∧ (a == sysModules) = false ∧ ∃ xs : List (List Key × Addr × Value),
      Paired (fun (p : List Key × V) (q : List Key × Addr × Value) => p.1 = q.1 ∧ H q.2.1 = some (.tup (p.1.map kV)) ∧ RelV p.2 q.2.2) kvs xs ∧
      ∃ o es ep, h.get? a = some o ∧ o.ExactDict ∧ o.data = .dict es ep ∧ es.toList = xs.map (entryOfKey (tupleKind (mixKind P w))) ∧ (xs.map (·.1)).Nodup
  | .set S n => h.SetOf (intKind P w) a S n
  | .ins C dx fs => H dx = some (.own a) ∧ fs.length ≤ 1000 ∧ dx ≠ a ∧ h.get? a = some (PySem.W.instObj C dx) ∧
      ∃ mA, h.Ns1 dx mA ∧ (∀ f, RelO (fs.lookup f) (mA f)) ∧ PySem.Within mA (fs.map (·.1))
  | .own _ => ∃ o, h.get? a = some o
  | .xd fs => ∃ mA, h.Ns1 a mA ∧ ∀ f, RelO (fs.lookup f) (mA f)
  | .rng lo hi => ∃ t u v, h.get? a = some { cls := .type "range", data := .fields #[.int lo t, .int hi u, .int 1 v] }
  | .frz o u => h.get? a = some o ∧ ObjOk H h a u
  | .tbl ps => h.get? a = some { cls := .none, data := .fields ps }
  | .met f x => h.get? a = some (PySem.W.methodObj (.ref f) (.ref x))
  | .ext φ => φ h ∧ (∃ o, h.get? a = some o) ∧ ∀ h1 h2 : Heap, φ h1 → (∀ o, h1.get? a = some o → h2.get? a = some o) → φ h2
/-- the abstract heap is held -/
def HOk (H : Hp) (h : Heap) : Prop := ∀ a o, H a = some o → ObjOk P w H h a o
end

section
variable {P : Program} {w : World} {H H' : Hp} {h h' : Heap} {a : Addr} {o : HO}
theorem ObjOk.lt (x : ObjOk P w H h a o) : a < h.objs.size := by
  cases o with
  | lst xs => obtain ⟨_, _, _, _, e⟩ := x; exact Heap.lt_size e
  | tup xs => obtain ⟨_, _, _, p⟩ := x; exact p.lt
  | dK kvs => obtain ⟨_, _, _, _, o, _, _, e, _⟩ := x; exact Heap.lt_size e
  | dT kvs => obtain ⟨_, _, _, _, o, _, _, e, _⟩ := x; exact Heap.lt_size e
  | set S n => obtain ⟨o, _, _, _, e, _⟩ := x; exact Heap.lt_size e
  | ins C dx fs => obtain ⟨_, _, _, e, _⟩ := x; exact Heap.lt_size e
  | own y => obtain ⟨_, e⟩ := x; exact Heap.lt_size e
  | xd fs => obtain ⟨_, ⟨_, _, _, e, _⟩, _⟩ := x; exact Heap.lt_size e
  | rng lo hi => obtain ⟨_, _, _, e⟩ := x; exact Heap.lt_size e
  | frz ob u => obtain ⟨e, _⟩ := x; exact Heap.lt_size e
  | tbl ps => exact Heap.lt_size (show h.get? a = some _ from x)
  | met f y => exact Heap.lt_size (show h.get? a = some _ from x)
  | ext φ => obtain ⟨_, ⟨_, e⟩, _⟩ := x; exact Heap.lt_size e
theorem Paired.mapP {α β : Type} {F G : α → β → Prop} : ∀ {l₁ : List α} {l₂ : List β}, Paired F l₁ l₂ → (∀ a b, F a b → G a b) → Paired G l₁ l₂
  | _, _, .nil, _ => .nil
  | _, _, .cons r t, f => .cons (f _ _ r) (Paired.mapP t f)
/-- what an object's description leans on: its own object, its own dict, the tuples -/
theorem ObjOk.stay (x : ObjOk P w H h a o) (k : ∀ b u, (b = a ∨ H b = some (.own a)) → h.get? b = some u → h'.get? b = some u)
    (ho : ∀ b, H b = some (.own a) → H' b = some (.own a)) (ht : ∀ b xs, H b = some (.tup xs) → H' b = some (.tup xs)) : ObjOk P w H' h' a o := by
  induction o with
  | lst xs => obtain ⟨z, its, n, r, e⟩ := x; exact ⟨z, its, n, r, k _ _ (.inl rfl) e⟩
  | tup xs => obtain ⟨z, its, r, ob, e, c⟩ := x; exact ⟨z, its, r, ob, k _ _ (.inl rfl) e, c⟩
  | dK kvs => obtain ⟨z, y, vs, r, ob, es, ep, e, c⟩ := x; exact ⟨z, y, vs, r, ob, es, ep, k _ _ (.inl rfl) e, c⟩
  | dT kvs =>
    obtain ⟨z, y, xs, r, ob, es, ep, e, c⟩ := x
    exact ⟨z, y, xs, Paired.mapP r fun p q z => ⟨z.1, ht _ _ z.2.1, z.2.2⟩, ob, es, ep, k _ _ (.inl rfl) e, c⟩
  | set S n => obtain ⟨ob, es, ep, t, e, c⟩ := x; exact ⟨ob, es, ep, t, k _ _ (.inl rfl) e, c⟩
  | ins C dx fs =>
    obtain ⟨d, z, ne, e, mA, ⟨od, es, ep, e2, c⟩, r⟩ := x
    exact ⟨ho _ d, z, ne, k _ _ (.inl rfl) e, mA, ⟨od, es, ep, k _ _ (.inr d) e2, c⟩, r⟩
  | own y => obtain ⟨ob, e⟩ := x; exact ⟨ob, k _ _ (.inl rfl) e⟩
  | xd fs => obtain ⟨mA, ⟨od, es, ep, e, c⟩, r⟩ := x; exact ⟨mA, ⟨od, es, ep, k _ _ (.inl rfl) e, c⟩, r⟩
  | rng lo hi => obtain ⟨t, u, v, e⟩ := x; exact ⟨t, u, v, k _ _ (.inl rfl) e⟩
  | frz ob u ih => obtain ⟨e, q⟩ := x; exact ⟨k _ _ (.inl rfl) e, ih q⟩
  | tbl ps =>
    have e : h.get? a = some { cls := .none, data := .fields ps } := x
    show h'.get? a = some { cls := .none, data := .fields ps }
    exact k a _ (.inl rfl) e
  | met f y =>
    have e : h.get? a = some (PySem.W.methodObj (.ref f) (.ref y)) := x
    show h'.get? a = some (PySem.W.methodObj (.ref f) (.ref y))
    exact k a _ (.inl rfl) e
  | ext φ => obtain ⟨p, ⟨o, e⟩, st⟩ := x; exact ⟨st _ _ p fun o q => k _ _ (.inl rfl) q, ⟨o, k _ _ (.inl rfl) e⟩, st⟩
theorem HOk.lt (x : HOk P w H h) (e : H a = some o) : a < h.objs.size := (x a o e).lt
theorem HOk.fresh (x : HOk P w H h) (e : h.objs.size ≤ a) : H a = none := by
  cases q : H a with
  | none => rfl
  | some u => exact absurd (Nat.lt_of_lt_of_le (x.lt q) e) (Nat.lt_irrefl _)
/-- every object of the heap is kept -/
theorem HOk.kept (x : HOk P w H h) (k : ∀ b u, h.get? b = some u → h'.get? b = some u) : HOk P w H h' := fun a o e =>
  (x a o e).stay (fun b u _ q => k b u q) (fun _ q => q) fun _ _ q => q
/-- a new object is laid and tracked -/
theorem HOk.laid (x : HOk P w H h) (k : ∀ b u, h.get? b = some u → h'.get? b = some u) (hp : h.objs.size ≤ a) (new : ObjOk P w (upd H a o) h' a o) : HOk P w (upd H a o) h' := fun b u e => by
  have hn := x.fresh hp
  by_cases hb : b = a
  · subst hb; rw [upd_same] at e; cases e; exact new
  · rw [upd_ne hb] at e
    exact (x b u e).stay (fun c v _ q => k c v q) (fun c q => by rw [upd_ne (ne_of_none q hn)]; exact q) fun c xs q => by rw [upd_ne (ne_of_none q hn)]; exact q
end

/-- what may be read as u: it is u, or a known u -/
def Rd (H : Hp) (a : Addr) (u : HO) : Prop := H a = some u ∨ ∃ o, H a = some (.frz o u)
theorem Rd.ok {P : Program} {w : World} {H : Hp} {h : Heap} {a : Addr} {u : HO} (r : Rd H a u) (x : HOk P w H h) : ObjOk P w H h a u := by
  rcases r with r | ⟨o, r⟩
  · exact x a u r
  · obtain ⟨_, q⟩ := x a _ r
    exact q
/-- what may be written -/
def Mut : Option HO → Prop
  | some (.lst _) => True
  | some (.dK _) => True
  | some (.dT _) => True
  | some (.set _ _) => True
  | some (.ins _ _ _) => True
  | some (.ext _) => True
  | _ => False
section
variable {P : Program} {w : World} {H : Hp} {h h' : Heap} {x e : Addr} {o' : HO}
/-- the object at e is changed: x itself, or the dict of the instance x -/
theorem HOk.write (ok : HOk P w H h) (mu : Mut (H x)) (he : e = x ∨ H e = some (.own x)) (k : ∀ b u, b ≠ e → h.get? b = some u → h'.get? b = some u) (heo : ∃ u, h'.get? e = some u)
    (new : ObjOk P w (upd H x o') h' x o') : HOk P w (upd H x o') h' := fun b u q => by
  have nown : ∀ c y, H c = some (.own y) → c ≠ x := fun c y r z => by subst z; rw [r] at mu; exact mu
  have ntup : ∀ c xs, H c = some (.tup xs) → c ≠ x := fun c xs r z => by subst z; rw [r] at mu; exact mu
  by_cases hb : b = x
  · subst hb; rw [upd_same] at q; cases q; exact new
  · rw [upd_ne hb] at q
    by_cases hbe : b = e
    · have q' : H b = some (.own x) := by
        rcases he with z | z
        · exact absurd (hbe.trans z) hb
        · rw [hbe]; exact z
      rw [q] at q'; cases q'
      obtain ⟨v, hv⟩ := heo
      exact ⟨v, by rw [hbe]; exact hv⟩
    · refine (ok b u q).stay (fun c v hc r => k c v ?_ r) (fun c r => by rw [upd_ne (nown c b r)]; exact r) fun c xs r => by rw [upd_ne (ntup c xs r)]; exact r
      rcases hc with rfl | hc
      · exact hbe
      · rintro rfl
        rcases he with z | z
        · exact nown c b hc z
        · rw [hc] at z; cases z; exact hb rfl
end

/-! ### kept unless tracked; of the frames at fs (the callers') the slots may change (an exception that passes writes there); of the records at ex (iterators) nothing is said -/
structure Un (fs ex : List Addr) (H H' : Hp) (h h' : Heap) : Prop where
  keep : ∀ b o, h.get? b = some o → H b = none → b ∉ fs → b ∉ ex → h'.get? b = some o
  slot : ∀ b o, h.get? b = some o → H b = none → b ∈ fs → b ∉ ex → ∃ sl, h'.get? b = some { o with slots := sl }
  free : ∀ b o, h.get? b = some o → H b = none → b ∉ ex → H' b = none
  there : ∀ b o, h.get? b = some o → b ∉ ex → ∃ o', h'.get? b = some o'
  tups : ∀ b xs, H b = some (.tup xs) → H' b = some (.tup xs)
  frzs : ∀ b o u, H b = some (.frz o u) → H' b = some (.frz o u)
  tbls : ∀ b ps, H b = some (.tbl ps) → ∃ more, H' b = some (.tbl (ps ++ more))
section
variable {fs fs' ex ex' : List Addr} {H H1 H2 : Hp} {h h1 h2 h' : Heap} {a x e : Addr} {o : HO}
theorem Un.any (u : Un fs ex H H1 h h1) {b : Addr} {ob : Obj} (q : h.get? b = some ob) (n : H b = none) (hx : b ∉ ex) : ∃ sl, h1.get? b = some { ob with slots := sl } := by
  by_cases hb : b ∈ fs
  · exact u.slot b ob q n hb hx
  · exact ⟨ob.slots, u.keep b ob q n hb hx⟩
theorem Un.kept (k : ∀ b u, h.get? b = some u → h'.get? b = some u) : Un fs ex H H h h' :=
  ⟨fun b ob q _ _ _ => k b ob q, fun b ob q _ _ _ => ⟨ob.slots, k b ob q⟩, fun _ _ _ n _ => n, fun b ob q _ => ⟨ob, k b ob q⟩, fun _ _ q => q, fun _ _ _ q => q, fun _ ps q => ⟨#[], by rw [q]; simp⟩⟩
theorem Un.refl : Un fs ex H H h h := Un.kept fun _ _ q => q
theorem Un.laid (k : ∀ b u, h.get? b = some u → h'.get? b = some u) (hp : h.objs.size ≤ a) (hn : H a = none) : Un fs ex H (upd H a o) h h' where
  keep := fun b u q _ _ _ => k b u q
  slot := fun b u q _ _ _ => ⟨u.slots, k b u q⟩
  free := fun b u q n _ => by rw [upd_ne (Nat.ne_of_lt (Nat.lt_of_lt_of_le (Heap.lt_size q) hp))]; exact n
  there := fun b u q _ => ⟨u, k b u q⟩
  tups := fun b xs q => by rw [upd_ne (ne_of_none q hn)]; exact q
  frzs := fun b u xs q => by rw [upd_ne (ne_of_none q hn)]; exact q
  tbls := fun b ps q => ⟨#[], by rw [upd_ne (ne_of_none q hn), q]; simp⟩
theorem Un.write (mu : Mut (H x)) (he : e = x ∨ H e = some (.own x)) (k : ∀ b u, b ≠ e → h.get? b = some u → h'.get? b = some u) (heo : ∃ u, h'.get? e = some u) : Un fs ex H (upd H x o) h h' := by
  have hx : ∀ b, H b = none → b ≠ x := fun b n z => by subst z; rw [n] at mu; exact mu
  have hb : ∀ b, H b = none → b ≠ e := fun b n z => by
    subst z
    rcases he with r | r
    · exact hx b n r
    · rw [n] at r; cases r
  have hm : ∀ b u, H b = some u → ¬ Mut (some u) → b ≠ x := fun b u q nm z => by subst z; rw [q] at mu; exact nm mu
  refine ⟨fun b u q n _ _ => k b u (hb b n) q, fun b u q n _ _ => ⟨u.slots, k b u (hb b n) q⟩, fun b u q n _ => by rw [upd_ne (hx b n)]; exact n, fun b u q _ => ?_,
    fun b xs q => by rw [upd_ne (hm b _ q fun z => z)]; exact q, fun b u xs q => by rw [upd_ne (hm b _ q fun z => z)]; exact q, fun b ps q => ⟨#[], by rw [upd_ne (hm b _ q fun z => z), q]; simp⟩⟩
  by_cases hbe : b = e
  · subst hbe; exact heo
  · exact ⟨u, k b u hbe q⟩
end

/-! ### the heap without what is tracked -/
def trk (h : Heap) (H : Hp) : List Addr := (List.range h.objs.size).filter fun a => (H a).isSome
def hidT (h : Heap) (H : Hp) : Heap := PySem.W.hideAll h (trk h H)
theorem hidT_size (h : Heap) (H : Hp) : (hidT h H).objs.size = h.objs.size := PySem.W.hideAll_size _ _
theorem hidT_get {h : Heap} {H : Hp} {b : Addr} {o : Obj} (e : h.get? b = some o) (n : H b = none) : (hidT h H).get? b = some o :=
  PySem.W.hideAll_get _ e fun hm => by
    have q : (H b).isSome = true := (List.mem_filter.mp hm).2
    rw [n] at q; simp at q
theorem of_hidT {h : Heap} {H : Hp} {b : Addr} {o : Obj} (e : (hidT h H).get? b = some o) : h.get? b = some o ∧ H b = none := by
  have e' : h.get? b = some o := PySem.W.of_hideAll (trk h H) e
  refine ⟨e', ?_⟩
  cases q : H b with
  | none => rfl
  | some x =>
    have hm : b ∈ trk h H := List.mem_filter.mpr ⟨List.mem_range.mpr (Heap.lt_size e'), by simp [q]⟩
    have z : (hidT h H).get? b = none := PySem.W.hideAll_none (trk h H) hm
    rw [z] at e; cases e

/-! ### OpenK's ledger, filled with every new object but one -/
end L2

namespace L2
open PySem PySem.Spec PyProof.Rows

/-- the module's facts, over the base: the heap at the law's entry without what is tracked there -/
structure Mod (K : PySem.W.Frag) (mg : Str → Option Value) (base : Heap) : Prop where
  kin : K.In base
  glob : base.Ns mainGlobals mg
  blt : ∃ mb, base.Ns builtinsNs mb ∧ ∀ x : Str, x ≠ "__name__" → mb x = bootBuiltins x
  nolimit : base.NoLimit

/-- the context: a def's body (or a comprehension's block) running. base: fixed through the whole law; s₀, H₀: the entry; outer: the frames whose slots others may change (a def's callers); stack: all frames that run;
   ex: iterators that were made ahead of the entry and are walked here (a comprehension's); fn: the names whose cells were made at the entry (a def: all; a comprehension's block: its own); calm: not within an except suite; pn: pins that every state bears; xe: what is wanted of an exception that leaves the code -/
structure Cx where
  prog : Program
  w : World
  K : PySem.W.Frag
  mg : Str → Option Value
  base : Heap
  A : Around
  N : List Str
  s₀ : Shared
  H₀ : Hp
  env : Env
  outer : List Env
  stack : List Env
  ex : List Addr
  fn : Str → Bool
  calm : Bool
  pn : List (Addr × Obj)
  xe : Value → Shared → Prop
/-- the callers' frames -/
def frs (l : List Env) : List Addr := l.filterMap (·.frame)
abbrev Cx.fs (X : Cx) : List Addr := frs X.outer

def Vis (sc : Scope) (x : Str) : Prop := sc.names.lookup x = some .local ∨ sc.names.lookup x = some .cell ∨ sc.names.lookup x = some .free
def Loc (sc : Scope) (x : Str) : Prop := sc.names.lookup x = some .local ∨ sc.names.lookup x = some .cell
def Look (env : Env) (h : Heap) (m : Str → Option Value) (x : Str) (u : Value) : Prop :=
  (env.kindOf x = some .local ∧ m x = some u) ∨ ((env.kindOf x = some .cell ∨ env.kindOf x = some .free) ∧ ∃ c, env.cells.lookup x = some c ∧ h.IsCell c (some u))

structure Cx.Ok (X : Cx) : Prop where
  mod : Mod X.K X.mg X.base
  kind : X.env.scope.kind = .function
  glob : X.env.globals = mainGlobals
  blt : X.env.builtins = builtinsNs
  above : X.s₀.heap.objs.size ≤ X.env.locals
  inj : ∀ x y c, X.env.cells.lookup x = some c → X.env.cells.lookup y = some c → x = y
  has : ∀ x, (X.env.kindOf x = some .cell ∨ X.env.kindOf x = some .free) → ∃ c, X.env.cells.lookup x = some c
  cab : ∀ x c, X.fn x = true → X.env.cells.lookup x = some c → X.s₀.heap.objs.size ≤ c
  hd : X.calm = true → X.A.handled = none
  frames : X.A.frames = some X.stack
  stk : X.stack = X.outer ∨ (X.stack = X.env :: X.outer ∧ X.env.frame = some X.env.locals)
  exf : ∀ b ∈ X.ex, b ≠ X.env.locals ∧ ∀ x c, X.env.cells.lookup x = some c → c ≠ b
  bs : ∀ b o, X.base.get? b = some o → X.s₀.heap.get? b = some o ∧ X.H₀ b = none
  bsz : X.base.objs.size ≤ X.s₀.heap.objs.size
  noex : ∀ b o, X.base.get? b = some o → b ∉ X.ex
  exfs : ∀ b ∈ X.ex, b ∉ X.fs
  funs : X.s₀.heap.FunFrames X.base X.outer
  frf : ∀ b ∈ X.fs, X.H₀ b = none

structure Inv (X : Cx) (pins : List (Addr × Obj)) (σ : List (Option V)) (H : Hp) (s : Shared) : Prop where
  ok : X.Ok
  os : s.os = X.s₀.os
  bare : AllBare s.gens
  base : Un X.fs X.ex X.H₀ H X.s₀.heap s.heap
  loc : ∃ m, s.heap.Ns X.env.locals m ∧ ∀ (i : Nat) (x : Str) (v : V), X.N[i]? = some x → σ[i]? = some (some v) → Vis X.env.scope x → ∃ u, RelV v u ∧ Look X.env s.heap m x u
  cell : ∀ x c, X.env.cells.lookup x = some c → ∃ v, s.heap.IsCell c v
  free : H X.env.locals = none
  freeC : ∀ x c, X.env.cells.lookup x = some c → H c = none
  pin : ∀ p ∈ X.pn ++ pins, s.heap.get? p.1 = some p.2 ∧ H p.1 = none ∧ p.1 ≠ X.env.locals ∧ p.1 ∉ X.fs ∧ ∀ v, p.2.data ≠ .cell v
  hok : HOk X.prog X.w H s.heap
  len : σ.length = X.N.length

section
variable {X : Cx} {pins : List (Addr × Obj)} {σ : List (Option V)} {H H' : Hp} {s : Shared} {h' : Heap}

theorem Cx.Ok.nofr (ok : X.Ok) {b : Addr} {o : Obj} (e : X.base.get? b = some o) : b ∉ X.fs := fun hb => by
  have := (ok.funs.mem hb).1
  rw [e] at this; cases this
theorem Inv.bs (I : Inv X pins σ H s) : ∀ b o, X.base.get? b = some o → s.heap.get? b = some o ∧ H b = none := fun b o e =>
  ⟨I.base.keep b o (I.ok.bs b o e).1 (I.ok.bs b o e).2 (I.ok.nofr e) (I.ok.noex b o e), I.base.free b o (I.ok.bs b o e).1 (I.ok.bs b o e).2 (I.ok.noex b o e)⟩
theorem Inv.bk (I : Inv X pins σ H s) : ∀ b o, X.base.get? b = some o → s.heap.get? b = some o := fun b o e => (I.bs b o e).1
theorem Inv.mod (I : Inv X pins σ H s) : Mod X.K X.mg X.base := I.ok.mod
theorem Inv.kIn (I : Inv X pins σ H s) : X.K.In s.heap := I.ok.mod.kin.keeps I.bk
theorem Inv.lt (I : Inv X pins σ H s) : X.env.locals < s.heap.objs.size := let ⟨_, hn, _⟩ := I.loc; hn.lt
theorem Inv.sz (I : Inv X pins σ H s) : X.s₀.heap.objs.size ≤ s.heap.objs.size := Nat.le_trans I.ok.above (Nat.le_of_lt I.lt)
theorem Inv.nofs (I : Inv X pins σ H s) {a : Addr} (h : s.heap.objs.size ≤ a) : a ∉ X.fs := fun hb => by
  obtain ⟨_, o, ho, _⟩ := I.ok.funs.mem hb
  exact absurd (Nat.lt_of_lt_of_le (Heap.lt_size ho) (Nat.le_trans I.sz h)) (Nat.lt_irrefl _)
theorem Inv.cne (I : Inv X pins σ H s) : ∀ x c, X.env.cells.lookup x = some c → c ≠ X.env.locals := fun x c e z => by
  obtain ⟨v, o, ho, hd⟩ := I.cell x c e
  obtain ⟨m, ⟨o', es, ep, ho', hd', _⟩, _⟩ := I.loc
  rw [z, ho'] at ho; cases ho; rw [hd'] at hd; cases hd
theorem Inv.funs (I : Inv X pins σ H s) : s.heap.FunFrames X.base X.outer := by
  have all : ∀ (l : List Env), (∀ b ∈ frs l, b ∈ X.fs) → X.s₀.heap.FunFrames X.base l → s.heap.FunFrames X.base l := by
    intro l
    induction l with
    | nil => intro _ _; trivial
    | cons env r ih =>
      intro hs hl
      obtain ⟨hk, ⟨L, o, hf, hn, ho, hd⟩, hr⟩ := hl
      have hL : L ∈ X.fs := hs L (by unfold frs; rw [List.filterMap_cons, hf]; exact List.mem_cons_self)
      obtain ⟨sl, e⟩ := I.base.slot L o ho (I.ok.frf L hL) hL fun z => I.ok.exfs L z hL
      exact ⟨hk, ⟨L, _, hf, hn, e, hd⟩, ih (fun b hb => hs b (by unfold frs; rw [List.filterMap_cons, hf]; exact List.mem_cons_of_mem _ hb)) hr⟩
  exact all X.outer (fun _ hb => hb) I.ok.funs

/-- the frames that run, for a call -/
theorem Inv.stack (I : Inv X pins σ H s) : s.heap.FunFrames X.base X.stack := by
  rcases I.ok.stk with e | ⟨e, hf⟩
  · rw [e]; exact I.funs
  · rw [e]
    obtain ⟨m, hn, _⟩ := I.loc
    refine .cons (by rw [I.ok.kind]; decide) hf hn ?_ I.funs
    exact Heap.get?_none_of_le (Nat.le_trans I.ok.bsz I.ok.above)
theorem Inv.stkSub (I : Inv X pins σ H s) : ∀ b ∈ frs X.stack, b ∈ X.env.locals :: X.fs := fun b hb => by
  rcases I.ok.stk with e | ⟨e, hf⟩
  · rw [e] at hb; exact List.mem_cons_of_mem _ hb
  · rw [e] at hb
    unfold frs at hb
    rw [List.filterMap_cons, hf] at hb
    exact hb
theorem Inv.stkFree (I : Inv X pins σ H s) : ∀ b ∈ frs X.stack, H b = none := fun b hb => by
  rcases List.mem_cons.mp (I.stkSub b hb) with e | hb
  · rw [e]; exact I.free
  · obtain ⟨_, o, ho, _⟩ := I.ok.funs.mem hb
    exact I.base.free b o ho (I.ok.frf b hb) fun z => I.ok.exfs b z hb

/-- THE STEP: the untracked objects but the frame and the records at ch are kept (the callers' frames up to slots), the frame's map is kept, the new abstract heap is held -/
theorem Inv.step {g' : Array GenState} {t' : Nat} {d' : Drawn} {ch : List Addr} (I : Inv X pins σ H s)
    (hch : ∀ b ∈ ch, (b ∈ X.ex ∨ X.s₀.heap.objs.size ≤ b) ∧ b ≠ X.env.locals ∧ (∀ x c, X.env.cells.lookup x = some c → c ≠ b) ∧ ∀ p ∈ X.pn ++ pins, p.1 ≠ b)
    (keep : ∀ b o, b ≠ X.env.locals → b ∉ X.fs → b ∉ ch → s.heap.get? b = some o → H b = none → h'.get? b = some o)
    (slot : ∀ b o, b ≠ X.env.locals → b ∈ X.fs → b ∉ ch → s.heap.get? b = some o → H b = none → ∃ sl, h'.get? b = some { o with slots := sl }) (free : ∀ b o, b ∉ ch → s.heap.get? b = some o → H b = none → H' b = none)
    (there : ∀ b o, b ∉ ch → s.heap.get? b = some o → ∃ o', h'.get? b = some o')
    (tups : ∀ b xs, H b = some (.tup xs) → H' b = some (.tup xs)) (frzs : ∀ b o u, H b = some (.frz o u) → H' b = some (.frz o u)) (tbls : ∀ b ps, H b = some (.tbl ps) → ∃ more, H' b = some (.tbl (ps ++ more)))
    (ns : ∀ m, s.heap.Ns X.env.locals m → h'.Ns X.env.locals m) (hok : HOk X.prog X.w H' h') (hg : AllBare g') :
    Inv X pins σ H' { s with heap := h', gens := g', drawn := d', toks := t' } := by
  have neL : ∀ b o, X.s₀.heap.get? b = some o → b ≠ X.env.locals := fun b o e => Nat.ne_of_lt (Nat.lt_of_lt_of_le (Heap.lt_size e) I.ok.above)
  have neC : ∀ b o, X.s₀.heap.get? b = some o → b ∉ X.ex → b ∉ ch := fun b o e hx hb => by
    rcases (hch b hb).1 with z | z
    · exact hx z
    · exact absurd (Nat.lt_of_lt_of_le (Heap.lt_size e) z) (Nat.lt_irrefl _)
  have cellK : ∀ x c, X.env.cells.lookup x = some c → ∀ v, s.heap.IsCell c v → h'.IsCell c v := fun x c e v ⟨o, ho, hd⟩ => by
    have nch : c ∉ ch := fun z => (hch c z).2.2.1 x c e rfl
    by_cases hc : c ∈ X.fs
    · obtain ⟨sl, q⟩ := slot c o (I.cne x c e) hc nch ho (I.freeC x c e)
      exact ⟨_, q, hd⟩
    · exact ⟨o, keep c o (I.cne x c e) hc nch ho (I.freeC x c e), hd⟩
  refine ⟨I.ok, I.os, hg, ⟨fun b o e n hb hx => ?_, fun b o e n hb hx => ?_, fun b o e n hx => ?_, fun b o e hx => ?_, fun b xs e => tups b xs (I.base.tups b xs e), fun b o xs e => frzs b o xs (I.base.frzs b o xs e), fun b ps e => ?_⟩, ?_, fun x c e => ?_, ?_, fun x c e => ?_, fun p hp => ?_, hok, I.len⟩
  · exact keep b o (neL b o e) hb (neC b o e hx) (I.base.keep b o e n hb hx) (I.base.free b o e n hx)
  · obtain ⟨sl, e1⟩ := I.base.slot b o e n hb hx
    obtain ⟨sl', e2⟩ := slot b _ (neL b o e) hb (neC b o e hx) e1 (I.base.free b o e n hx)
    exact ⟨sl', e2⟩
  · obtain ⟨o', e1⟩ := I.base.there b o e hx
    exact free b o' (neC b o e hx) e1 (I.base.free b o e n hx)
  · obtain ⟨o', e1⟩ := I.base.there b o e hx
    exact there b o' (neC b o e hx) e1
  · obtain ⟨m1, e1⟩ := I.base.tbls b ps e
    obtain ⟨m2, e2⟩ := tbls b _ e1
    exact ⟨m1 ++ m2, by rw [e2, Array.append_assoc]⟩
  · obtain ⟨m, hn, hl⟩ := I.loc
    refine ⟨m, ns m hn, fun i x v e1 e2 e3 => ?_⟩
    obtain ⟨u, r, l⟩ := hl i x v e1 e2 e3
    refine ⟨u, r, ?_⟩
    rcases l with l | ⟨k, c, e, z⟩
    · exact .inl l
    · exact .inr ⟨k, c, e, cellK x c e _ z⟩
  · obtain ⟨v, z⟩ := I.cell x c e
    exact ⟨v, cellK x c e v z⟩
  · obtain ⟨m, ⟨o, _, _, ho, _⟩, _⟩ := I.loc
    exact free _ o (fun z => (hch _ z).2.1 rfl) ho I.free
  · obtain ⟨v, o, ho, hd⟩ := I.cell x c e
    exact free c o (fun z => (hch c z).2.2.1 x c e rfl) ho (I.freeC x c e)
  · obtain ⟨e, n, ne, nf, d⟩ := I.pin p hp
    have nch : p.1 ∉ ch := fun z => (hch p.1 z).2.2.2 p hp rfl
    exact ⟨keep p.1 p.2 ne nf nch e n, free p.1 p.2 nch e n, ne, nf, d⟩
/-- .. where the frame's own object is kept too -/
theorem Inv.un {t' : Nat} (I : Inv X pins σ H s) (u : Un X.fs [] H H' s.heap h') (hok : HOk X.prog X.w H' h') : Inv X pins σ H' { s with heap := h', toks := t' } := by
  obtain ⟨m, ⟨o, es, ep, ho, r⟩, _⟩ := id I.loc
  obtain ⟨sl, hL⟩ := u.any ho I.free (by simp)
  exact I.step (g' := s.gens) (d' := s.drawn) (ch := []) (fun _ z => nomatch z) (fun b o _ hb _ e n => u.keep b o e n hb (by simp)) (fun b o _ hb _ e n => u.slot b o e n hb (by simp)) (fun b o _ e n => u.free b o e n (by simp)) (fun b o _ e => u.there b o e (by simp)) u.tups u.frzs u.tbls (fun m' hm => by
    obtain ⟨o', es', ep', ho', r'⟩ := hm
    rw [ho] at ho'; cases ho'
    exact ⟨_, es', ep', hL, r'⟩) hok I.bare
/-- behind a call (or a comprehension's block): the slots of this frame may have changed too, the records at ch may have turned -/
theorem Inv.call {g' : Array GenState} {t' : Nat} {d' : Drawn} {ch : List Addr} (I : Inv X pins σ H s) (u : Un (frs X.stack) ch H H' s.heap h') (hok : HOk X.prog X.w H' h') (hg : AllBare g')
    (hch : ∀ b ∈ ch, (b ∈ X.ex ∨ X.s₀.heap.objs.size ≤ b) ∧ b ≠ X.env.locals ∧ (∀ x c, X.env.cells.lookup x = some c → c ≠ b) ∧ ∀ p ∈ X.pn ++ pins, p.1 ≠ b) :
    Inv X pins σ H' { s with heap := h', gens := g', drawn := d', toks := t' } := by
  obtain ⟨m, ⟨o, es, ep, ho, r⟩, _⟩ := id I.loc
  obtain ⟨sl, hL⟩ := u.any ho I.free fun z => (hch _ z).2.1 rfl
  exact I.step (ch := ch) hch (fun b o hL hb hc e n => u.keep b o e n (fun z => (List.mem_cons.mp (I.stkSub b z)).elim hL hb) hc) (fun b o _ _ hc e n => u.any e n hc) (fun b o hc e n => u.free b o e n hc) (fun b o hc e => u.there b o e hc) u.tups u.frzs u.tbls (fun m' hm => by
    obtain ⟨o', es', ep', ho', r'⟩ := hm
    rw [ho] at ho'; cases ho'
    exact ⟨_, es', ep', hL, r'⟩) hok hg
/-- an untracked record of ours (an iterator) has turned -/
theorem Inv.turned {t' : Nat} {it : Addr} (I : Inv X pins σ H s) (k : ∀ b o, b ≠ it → s.heap.get? b = some o → h'.get? b = some o) (hn : H it = none) (hL : it ≠ X.env.locals)
    (h1 : it ∈ X.ex ∨ X.s₀.heap.objs.size ≤ it) (h2 : ∀ x c, X.env.cells.lookup x = some c → c ≠ it) (h3 : ∀ p ∈ X.pn ++ pins, p.1 ≠ it) : Inv X pins σ H { s with heap := h', toks := t' } := by
  have nit : ∀ b u, H b = some u → b ≠ it := fun b u e z => by rw [z, hn] at e; cases e
  refine I.step (g' := s.gens) (d' := s.drawn) (ch := [it]) (fun b hb => ?_) (fun b o _ _ hc e _ => k b o (fun z => hc (by simp [z])) e) (fun b o _ _ hc e _ => ⟨o.slots, k b o (fun z => hc (by simp [z])) e⟩) (fun _ _ _ _ n => n)
    (fun b o hc e => ⟨o, k b o (fun z => hc (by simp [z])) e⟩) (fun _ _ e => e) (fun _ _ _ e => e) (fun b ps e => ⟨#[], by rw [e]; simp⟩) (fun m hm => ?_) (fun b u e => ?_) I.bare
  · have e : b = it := by simpa using hb
    subst e
    exact ⟨h1, hL, h2, h3⟩
  · obtain ⟨o, es, ep, ho, r⟩ := hm
    exact ⟨o, es, ep, k _ o (Ne.symm hL) ho, r⟩
  · refine (I.hok b u e).stay (fun c v hc q => k c v ?_ q) (fun _ q => q) fun _ _ q => q
    rcases hc with z | z
    · rw [z]; exact nit b u e
    · exact nit c _ z
theorem Inv.tok (I : Inv X pins σ H s) (t : Nat) : Inv X pins σ H { s with toks := t } := I.un (h' := s.heap) (t' := t) Un.refl I.hok
/-- all objects kept -/
theorem Inv.kept {t' : Nat} (I : Inv X pins σ H s) (k : ∀ b u, s.heap.get? b = some u → h'.get? b = some u) : Inv X pins σ H { s with heap := h', toks := t' } := I.un (Un.kept k) (I.hok.kept k)
/-- a new object laid and tracked -/
theorem Inv.laid {a : Addr} {o : HO} {t' : Nat} (I : Inv X pins σ H s) (k : ∀ b u, s.heap.get? b = some u → h'.get? b = some u) (hp : s.heap.objs.size ≤ a) (new : ObjOk X.prog X.w (upd H a o) h' a o) :
    Inv X pins σ (upd H a o) { s with heap := h', toks := t' } := I.un (Un.laid k hp (I.hok.fresh hp)) (I.hok.laid k hp new)
/-- an object written -/
theorem Inv.write {x e : Addr} {o : HO} {t' : Nat} (I : Inv X pins σ H s) (mu : Mut (H x)) (he : e = x ∨ H e = some (.own x)) (k : ∀ b u, b ≠ e → s.heap.get? b = some u → h'.get? b = some u) (heo : ∃ u, h'.get? e = some u)
    (new : ObjOk X.prog X.w (upd H x o) h' x o) : Inv X pins σ (upd H x o) { s with heap := h', toks := t' } := I.un (Un.write mu he k heo) (I.hok.write mu he k heo new)
theorem Inv.pins_of {pins' : List (Addr × Obj)} (I : Inv X pins σ H s) (h : ∀ p ∈ pins', s.heap.get? p.1 = some p.2 ∧ H p.1 = none ∧ p.1 ≠ X.env.locals ∧ p.1 ∉ X.fs ∧ ∀ v, p.2.data ≠ .cell v) : Inv X pins' σ H s :=
  ⟨I.ok, I.os, I.bare, I.base, I.loc, I.cell, I.free, I.freeC, fun p hp => (List.mem_append.mp hp).elim (fun z => I.pin p (List.mem_append_left _ z)) (h p), I.hok, I.len⟩

theorem nodup_ix {N : List Str} (hN : N.Nodup) {i j : Nat} {x : Str} (a : N[i]? = some x) (b : N[j]? = some x) : i = j := by
  obtain ⟨h1, e1⟩ := List.getElem?_eq_some_iff.mp a
  obtain ⟨h2, e2⟩ := List.getElem?_eq_some_iff.mp b
  exact (List.getElem_inj hN).mp (e1.trans e2.symm)

/-- a name is stored; what changed -/
theorem store_ok2 {M : Model} {A : Around} {E : Value → Shared → Prop} {i : Nat} {x : Str} {v : V} {u : Value} {Q : Unit → Shared → Prop} (I : Inv X pins σ H s) (hN : X.N.Nodup) (hi : X.N[i]? = some x) (hx : Loc X.env.scope x) (r : RelV v u)
    (h : ∀ s', Inv X pins (σ.set i (some v)) H s' → (∃ a, Heap.SameBut a s.heap s'.heap ∧ (a = X.env.locals ∨ X.env.cells.lookup x = some a)) → Q () s') (hf : X.fn x = true ∨ X.env.scope.names.lookup x = some .local := by first | exact .inl rfl | exact .inr rfl | assumption) : wpAny M A (storeName X.env x u) Q E s := by
  obtain ⟨m, hn, hl⟩ := id I.loc
  have hcls : (X.env.scope.kind == .class || (X.env.scope.kind == .module && X.env.locals != X.env.globals)) = false := by rw [I.ok.kind]; rfl
  have hiσ : i < σ.length := by rw [I.len]; exact (List.getElem?_eq_some_iff.mp hi).1
  have cne := I.cne
  have tracked : ∀ {a : Addr} {h' : Heap}, (∃ o, s.heap.get? a = some o ∧ H a = none) → Heap.SameBut a s.heap h' → HOk X.prog X.w H h' := fun {a h'} ha hs b ob e => by
    obtain ⟨_, _, hfree⟩ := ha
    refine (I.hok b ob e).stay (fun c w' hc q => (hs.2 c ?_).trans q) (fun _ q => q) fun _ _ q => q
    rintro rfl
    rcases hc with rfl | hc
    · rw [hfree] at e; cases e
    · rw [hfree] at hc; cases hc
  rcases hx with hk | hk
  · refine wpAny_storeName_local hk hn (fun h' hn' hs => ?_) hcls
    obtain ⟨oL, _, _, hoL, _⟩ := id hn
    refine h _ ⟨I.ok, I.os, I.bare, ⟨fun b o e n hb hx => ?_, fun b o e n hb hx => ?_, I.base.free, fun b o e hx => ?_, I.base.tups, I.base.frzs, I.base.tbls⟩, ⟨_, hn', fun j y v' e1 e2 e3 => ?_⟩, fun y c e => ?_, I.free, I.freeC, fun p hp => ?_, tracked ⟨oL, hoL, I.free⟩ hs, by simpa using I.len⟩ ⟨_, hs, .inl rfl⟩
    · exact (hs.2 b (Nat.ne_of_lt (Nat.lt_of_lt_of_le (Heap.lt_size e) I.ok.above))).trans (I.base.keep b o e n hb hx)
    · obtain ⟨sl, e1⟩ := I.base.slot b o e n hb hx
      exact ⟨sl, (hs.2 b (Nat.ne_of_lt (Nat.lt_of_lt_of_le (Heap.lt_size e) I.ok.above))).trans e1⟩
    · obtain ⟨o', e1⟩ := I.base.there b o e hx
      exact ⟨o', (hs.2 b (Nat.ne_of_lt (Nat.lt_of_lt_of_le (Heap.lt_size e) I.ok.above))).trans e1⟩
    · by_cases hj : j = i
      · subst hj
        rw [hi] at e1; cases e1
        rw [List.getElem?_set_self hiσ] at e2
        cases e2
        exact ⟨u, r, .inl ⟨hk, by simp⟩⟩
      · rw [List.getElem?_set_ne (Ne.symm hj)] at e2
        obtain ⟨u', r', q⟩ := hl j y v' e1 e2 e3
        refine ⟨u', r', ?_⟩
        rcases q with ⟨k, e⟩ | ⟨k, c, e, z⟩
        · refine .inl ⟨k, ?_⟩
          have : y ≠ x := fun e => hj (nodup_ix hN e1 (e ▸ hi))
          simp [this, e]
        · exact .inr ⟨k, c, e, z.sameBut hs (cne y c e)⟩
    · obtain ⟨w', z⟩ := I.cell y c e
      exact ⟨w', z.sameBut hs (cne y c e)⟩
    · obtain ⟨e, n, ne, nf, d⟩ := I.pin p hp
      exact ⟨(hs.2 p.1 ne).trans e, n, ne, nf, d⟩
  · have hfn : X.fn x = true := by
      rcases hf with z | z
      · exact z
      · rw [z] at hk; cases hk
    obtain ⟨c, hc⟩ := I.ok.has x (.inl hk)
    obtain ⟨w', z⟩ := I.cell x c hc
    refine wpAny_storeName_cell I.ok.kind hk hc z (fun h' hc' hs => ?_)
    obtain ⟨oc, hoc, hocd⟩ := id z
    refine h { s with heap := h' } ⟨I.ok, I.os, I.bare, ⟨fun b o e n hb hx => ?_, fun b o e n hb hx => ?_, I.base.free, fun b o e hx => ?_, I.base.tups, I.base.frzs, I.base.tbls⟩, ⟨m, hn.sameBut hs (Ne.symm (cne x c hc)), fun j y v' e1 e2 e3 => ?_⟩, fun y c' e => ?_, I.free, I.freeC, fun p hp => ?_, tracked ⟨oc, hoc, I.freeC x c hc⟩ hs, by simpa using I.len⟩ ⟨c, hs, .inr hc⟩
    · exact (hs.2 b (Nat.ne_of_lt (Nat.lt_of_lt_of_le (Heap.lt_size e) (I.ok.cab x c hfn hc)))).trans (I.base.keep b o e n hb hx)
    · obtain ⟨sl, e1⟩ := I.base.slot b o e n hb hx
      exact ⟨sl, (hs.2 b (Nat.ne_of_lt (Nat.lt_of_lt_of_le (Heap.lt_size e) (I.ok.cab x c hfn hc)))).trans e1⟩
    · obtain ⟨o', e1⟩ := I.base.there b o e hx
      exact ⟨o', (hs.2 b (Nat.ne_of_lt (Nat.lt_of_lt_of_le (Heap.lt_size e) (I.ok.cab x c hfn hc)))).trans e1⟩
    · by_cases hj : j = i
      · subst hj
        rw [hi] at e1; cases e1
        rw [List.getElem?_set_self hiσ] at e2
        cases e2
        exact ⟨u, r, .inr ⟨.inl hk, c, hc, hc'⟩⟩
      · rw [List.getElem?_set_ne (Ne.symm hj)] at e2
        obtain ⟨u', r', q⟩ := hl j y v' e1 e2 e3
        refine ⟨u', r', ?_⟩
        rcases q with q | ⟨k, c', e, z'⟩
        · exact .inl q
        · refine .inr ⟨k, c', e, z'.sameBut hs ?_⟩
          rintro rfl
          exact hj (nodup_ix hN e1 (I.ok.inj _ _ _ e hc ▸ hi))
    · by_cases hcc : c' = c
      · subst hcc; exact ⟨_, hc'⟩
      · obtain ⟨w2, z2⟩ := I.cell y c' e
        exact ⟨w2, z2.sameBut hs hcc⟩
    · obtain ⟨e, n, ne, nf, d⟩ := I.pin p hp
      refine ⟨(hs.2 p.1 ?_).trans e, n, ne, nf, d⟩
      intro q
      rw [q, hoc] at e
      have q' : oc = p.2 := Option.some.inj e
      exact d w' (by rw [← q']; exact hocd)
theorem store_ok {M : Model} {A : Around} {E : Value → Shared → Prop} {i : Nat} {x : Str} {v : V} {u : Value} {Q : Unit → Shared → Prop} (I : Inv X pins σ H s) (hN : X.N.Nodup) (hi : X.N[i]? = some x) (hx : Loc X.env.scope x) (r : RelV v u)
    (h : ∀ s', Inv X pins (σ.set i (some v)) H s' → Q () s') (hf : X.fn x = true ∨ X.env.scope.names.lookup x = some .local := by first | exact .inl rfl | exact .inr rfl | assumption) : wpAny M A (storeName X.env x u) Q E s :=
  store_ok2 I hN hi hx r (fun s' I' _ => h s' I') hf
/-- behind a call or a block, the state as it is -/
theorem Inv.call' {s' : Shared} {ch : List Addr} (I : Inv X pins σ H s) (ho : s'.os = s.os) (u : Un (frs X.stack) ch H H' s.heap s'.heap) (hok : HOk X.prog X.w H' s'.heap) (hg : AllBare s'.gens)
    (hch : ∀ b ∈ ch, (b ∈ X.ex ∨ X.s₀.heap.objs.size ≤ b) ∧ b ≠ X.env.locals ∧ (∀ x c, X.env.cells.lookup x = some c → c ≠ b) ∧ ∀ p ∈ X.pn ++ pins, p.1 ≠ b) : Inv X pins σ H' s' := by
  obtain ⟨h', g', d', t', o'⟩ := s'
  have e : o' = s.os := ho
  subst e
  exact I.call (g' := g') (t' := t') (d' := d') u hok hg hch
end

/-! ### the judgements -/
/-- an exception: its class, its own dict's address (where it has one), the abstract heap behind it -/
abbrev XK := Value → Option Addr → Hp → Prop
abbrev St := List (Option V)
abbrev VK := V → Hp → Prop
/-- an expression's reading; a test's; an argument list's -/
abbrev TE := St → Hp → VK → Prop
abbrev TT := St → Hp → (Bool → Hp → Prop) → Prop
abbrev TA := St → Hp → (List V → Hp → Prop) → Prop
/-- what is wanted behind a statement -/
structure Ends where
  nx : St → Hp → Prop
  rt : VK
  bk : St → Hp → Prop := fun _ _ => False
  ct : St → Hp → Prop := fun _ _ => False
abbrev TS := Ends → St → Hp → Prop

def EP (X : Cx) (pins : List (Addr × Obj)) (σ : St) (Q : VK) (u : Value) (s' : Shared) : Prop := ∃ v H', Inv X pins σ H' s' ∧ RelV v u ∧ Q v H'
def TP (X : Cx) (pins : List (Addr × Obj)) (σ : St) (Q : Bool → Hp → Prop) (b : Bool) (s' : Shared) : Prop := ∃ H', Inv X pins σ H' s' ∧ Q b H'
def AP (X : Cx) (pins : List (Addr × Obj)) (σ : St) (Q : List V → Hp → Prop) (us : List Value) (s' : Shared) : Prop := ∃ vs H', Inv X pins σ H' s' ∧ Vals vs us ∧ Q vs H'
def SP (X : Cx) (pins : List (Addr × Obj)) (D : Ends) (f : Flow) (s' : Shared) : Prop :=
  match f with
  | .next => ∃ σ' H', Inv X pins σ' H' s' ∧ D.nx σ' H'
  | .brk => ∃ σ' H', Inv X pins σ' H' s' ∧ D.bk σ' H'
  | .cont => ∃ σ' H', Inv X pins σ' H' s' ∧ D.ct σ' H'
  | .ret u => ∃ v σ' H', Inv X pins σ' H' s' ∧ RelV v u ∧ D.rt v H'

def PE (X : Cx) (e : Expr) (t : TE) : Prop :=
  ∀ (pins : List (Addr × Obj)) (s : Shared) (σ : St) (H : Hp) (Q : VK), Inv X pins σ H s → t σ H Q → wpAny (model X.prog X.w) X.A (eval e X.env) (EP X pins σ Q) X.xe s
def PT (X : Cx) (e : Expr) (t : TT) : Prop :=
  ∀ (pins : List (Addr × Obj)) (s : Shared) (σ : St) (H : Hp) (Q : Bool → Hp → Prop), Inv X pins σ H s → t σ H Q → wpAny (model X.prog X.w) X.A (isTrue e X.env (eval e X.env)) (TP X pins σ Q) X.xe s
/-- a test whatever its 'whole' is (and, or) -/
def PW (X : Cx) (e : Expr) (t : TT) : Prop :=
  ∀ (whole : Sem Value) (pins : List (Addr × Obj)) (s : Shared) (σ : St) (H : Hp) (Q : Bool → Hp → Prop), Inv X pins σ H s → t σ H Q → wpAny (model X.prog X.w) X.A (isTrue e X.env whole) (TP X pins σ Q) X.xe s
theorem PW.pt {X : Cx} {e : Expr} {t : TT} (h : PW X e t) : PT X e t := h _
/-- an argument list (no star), from the left -/
def PA (X : Cx) (es : List Expr) (t : TA) : Prop :=
  ∀ (pos : Pos) (pins : List (Addr × Obj)) (s : Shared) (σ : St) (H : Hp) (Q : List V → Hp → Prop), Inv X pins σ H s → t σ H Q → wpAny (model X.prog X.w) X.A (spliced (backTo pos (starEach es X.env))) (AP X pins σ Q) X.xe s
def PS (X : Cx) (st : Stmt) (t : TS) : Prop :=
  ∀ (pins : List (Addr × Obj)) (s : Shared) (σ : St) (H : Hp) (D : Ends), Inv X pins σ H s → t D σ H → wpAny (model X.prog X.w) X.A (exec st X.env) (SP X pins D) X.xe s
def PSs (X : Cx) (st : List Stmt) (t : TS) : Prop :=
  ∀ (pins : List (Addr × Obj)) (s : Shared) (σ : St) (H : Hp) (D : Ends), Inv X pins σ H s → t D σ H → wpAny (model X.prog X.w) X.A (execs st X.env) (SP X pins D) X.xe s
/-- weaken the end -/
theorem thn {α : Type} {t : Sem α} {Q Q' : α → Shared → Prop} {M : Model} {A : Around} {E : Value → Shared → Prop} {s : Shared} (h : wpAny M A t Q E s) (hQ : ∀ a s, Q a s → Q' a s) : wpAny M A t Q' E s := wpAny_mono h hQ fun _ _ x => x
end L2

namespace L2
open PySem PySem.Spec PyProof.Rows
section
variable {X : Cx}

/-! ### names and constants -/
def tVar (i : Nat) : TE := fun σ H Q => ∃ v, σ[i]? = some (some v) ∧ Q v H
def tC (v : V) : TE := fun _ H Q => Q v H
theorem pe_var {i : Nat} {x : Str} {pos : Pos} (hN : X.N[i]? = some x) (hv : Vis X.env.scope x) (hd : (x == ("__debug__" : Str)) = false := by decide) (hcd : (x == ("__classdict__" : Str)) = false := by decide) : PE X (.Name x pos) (tVar i) := by
  intro pins s σ H Q I h
  obtain ⟨v, e, h⟩ := h
  obtain ⟨m, hn, hl⟩ := I.loc
  obtain ⟨u, r, l⟩ := hl i x v hN e hv
  have fin : EP X pins σ Q u s := ⟨v, H, I, r, h⟩
  rcases l with ⟨hk, hm⟩ | ⟨hk, c, hc, hcell⟩
  · exact wpAny_Name (wpAny_loadName_local I.ok.kind hk hn hm fin) hd
  · rcases hk with hk | hk
    · exact wpAny_Name (wpAny_loadName_cell I.ok.kind hk hc hcell fin) hd
    · exact wpAny_Name (wpAny_loadName_free I.ok.kind hk hc hcell fin hcd) hd
theorem pe_int {i j pos} : PE X (.Constant (.int i) j pos) (tC (.int i)) := fun _ _ _ H _ I h => wpAny_Constant_int ⟨.int i, H, I.tok _, ⟨_, rfl⟩, h⟩
theorem pe_bl {b j pos} : PE X (.Constant (.bool b) j pos) (tC (.bl b)) := fun _ _ _ H _ I h => Constant_bool ⟨.bl b, H, I, rfl, h⟩
theorem pe_non {j pos} : PE X (.Constant .none j pos) (tC .non) := fun _ _ _ H _ I h => Constant_none ⟨.non, H, I, rfl, h⟩
theorem pe_str {x j pos} : PE X (.Constant (.str x) j pos) (tC (.str x)) := fun _ _ _ H _ I h => Calls.Constant_str ⟨.str x, H, I.tok _, ⟨_, rfl⟩, h⟩

/-- a global name of the def -/
def Gl (X : Cx) (x : Str) : Prop := X.env.kindOf x = some .globalImplicit
theorem ld_glob {E : Value → Shared → Prop} {pins : List (Addr × Obj)} {s : Shared} {σ : St} {H : Hp} {x : Str} {u : Value} {pos : Pos} {Q : Value → Shared → Prop} (I : Inv X pins σ H s) (hg : Gl X x) (hm : X.mg x = some u) (h : Q u s)
    (hd : (x == ("__debug__" : Str)) = false := by decide) : wpAny (model X.prog X.w) X.A (eval (.Name x pos) X.env) Q E s :=
  Calls.Name_function_global I.ok.kind hg (Calls.loadGlobal_global (by rw [I.ok.glob]; exact I.mod.glob.keeps I.bk) hm h) hd
theorem ld_blt {E : Value → Shared → Prop} {pins : List (Addr × Obj)} {s : Shared} {σ : St} {H : Hp} {x : Str} {u : Value} {pos : Pos} {Q : Value → Shared → Prop} (I : Inv X pins σ H s) (hg : Gl X x) (hm : X.mg x = none) (hv : bootBuiltins x = some u) (h : Q u s)
    (hn : x ≠ "__name__" := by decide) (hd : (x == ("__debug__" : Str)) = false := by decide) : wpAny (model X.prog X.w) X.A (eval (.Name x pos) X.env) Q E s := by
  obtain ⟨mb, h1, h2⟩ := I.mod.blt
  exact Calls.Name_function_global I.ok.kind hg (Calls.loadGlobal_builtin (by rw [I.ok.glob]; exact I.mod.glob.keeps I.bk) hm (by rw [I.ok.blt]; exact h1.keeps I.bk) ((h2 x hn).trans hv) h) hd
/-- a module's constant, a class, a function, as a value -/
theorem pe_glob {x : Str} {v : V} {u : Value} {pos : Pos} (hg : Gl X x) (hm : X.mg x = some u) (r : RelV v u) (hd : (x == ("__debug__" : Str)) = false := by decide) : PE X (.Name x pos) (tC v) :=
  fun _ _ _ H _ I h => ld_glob I hg hm ⟨v, H, I, r, h⟩ hd
theorem pe_bltn {x : Str} {v : V} {u : Value} {pos : Pos} (hg : Gl X x) (hm : X.mg x = none) (hv : bootBuiltins x = some u) (r : RelV v u) (hn : x ≠ "__name__" := by decide) (hd : (x == ("__debug__" : Str)) = false := by decide) : PE X (.Name x pos) (tC v) :=
  fun _ _ _ H _ I h => ld_blt I hg hm hv ⟨v, H, I, r, h⟩ hn hd

/-! ### arithmetic -/
variable {a b : Expr} {ta tb : TE} {pos : Pos}
/-! ### comparisons -/
/-- a comparison as a value, as a test -/
def tB (t : TE) : TT := fun σ H Q => t σ H fun x H1 => ∃ c, x = .bl c ∧ Q c H1
/-- an expression whose value is a bool, as a test -/
theorem pt_val {e : Expr} {t : TE} (h : PE X e t) (he : ∀ whole, isTrue e X.env whole = (do let v ← whole; standAt e.pos; holding [v] (truthy v)) := by intro _; rfl) : PT X e (tB t) := by
  intro pins s σ H Q I hw
  refine isTrue_plain (thn (h pins s σ H _ I hw) fun v s1 ⟨x, H1, I1, r1, q1⟩ => ?_) (he _)
  obtain ⟨d, rfl, q⟩ := q1
  cases r1
  exact wpAny_truthy_bool ⟨H1, I1, q⟩

/-! ### and, or, not -/
variable {tA tB' : TT} {rest : List Expr}
def tAnd (t u : TT) : TT := fun σ H Q => t σ H fun c H1 => if c = true then u σ H1 Q else Q false H1
def tOr (t u : TT) : TT := fun σ H Q => t σ H fun c H1 => if c = true then Q true H1 else u σ H1 Q
def tNot (t : TT) : TT := fun σ H Q => t σ H fun c H1 => Q (!c) H1
theorem pw_and1 (ha : PT X a tA) : PW X (.BoolOp .And [a] pos) tA := by
  intro wh pins s σ H Q I h
  refine isTrue_and (thn (ha pins s σ H Q I h) fun c s1 e => ?_)
  cases c with
  | true => exact isTrue_and_nil e
  | false => exact e
theorem pw_or1 (ha : PT X a tA) : PW X (.BoolOp .Or [a] pos) tA := by
  intro wh pins s σ H Q I h
  refine isTrue_or (thn (ha pins s σ H Q I h) fun c s1 e => ?_)
  cases c with
  | false => exact isTrue_or_nil e
  | true => exact e
theorem pw_and (ha : PT X a tA) (hb : PW X (.BoolOp .And (b :: rest) pos) tB') : PW X (.BoolOp .And (a :: b :: rest) pos) (tAnd tA tB') := by
  intro wh pins s σ H Q I h
  refine isTrue_and (thn (ha pins s σ H _ I h) fun c s1 ⟨H1, I1, q1⟩ => ?_)
  cases c with
  | true => exact hb wh pins s1 σ H1 Q I1 q1
  | false => exact ⟨H1, I1, q1⟩
theorem pw_or (ha : PT X a tA) (hb : PW X (.BoolOp .Or (b :: rest) pos) tB') : PW X (.BoolOp .Or (a :: b :: rest) pos) (tOr tA tB') := by
  intro wh pins s σ H Q I h
  refine isTrue_or (thn (ha pins s σ H _ I h) fun c s1 ⟨H1, I1, q1⟩ => ?_)
  cases c with
  | true => exact ⟨H1, I1, q1⟩
  | false => exact hb wh pins s1 σ H1 Q I1 q1
theorem pt_not (ha : PT X a tA) : PT X (.UnaryOp .Not a pos) (tNot tA) := by
  intro pins s σ H Q I h
  exact isTrue_not (ha pins s σ H (fun c H1 => Q (!c) H1) I h)
/-- .. as values (bools) -/
def tAndV (ta tb : TE) : TE := fun σ H Q => ta σ H fun x H1 => ∃ c, x = .bl c ∧ if c = true then tb σ H1 Q else Q (.bl false) H1
def tOrV (ta tb : TE) : TE := fun σ H Q => ta σ H fun x H1 => ∃ c, x = .bl c ∧ if c = true then Q (.bl true) H1 else tb σ H1 Q
def tNotV (ta : TE) : TE := fun σ H Q => ta σ H fun x H1 => ∃ c, x = .bl c ∧ Q (.bl (!c)) H1
theorem pe_one {op} {t : TE} (h : PE X a t) : PE X (.BoolOp op [a] pos) t := fun pins s σ H Q I hw => BoolOp_one (h pins s σ H Q I hw)
theorem pe_and (ha : PE X a ta) (hb : PE X (.BoolOp .And (b :: rest) pos) tb) : PE X (.BoolOp .And (a :: b :: rest) pos) (tAndV ta tb) := by
  intro pins s σ H Q I h
  refine BoolOp_and (thn (ha pins s σ H _ I h) fun v s1 ⟨x, H1, I1, r1, q1⟩ => ?_)
  obtain ⟨c, rfl, q1⟩ := q1
  cases r1
  refine wpAny_truthy_bool ?_
  cases c with
  | true => exact hb pins s1 σ H1 Q I1 q1
  | false => exact ⟨.bl false, H1, I1, rfl, q1⟩
theorem pe_or (ha : PE X a ta) (hb : PE X (.BoolOp .Or (b :: rest) pos) tb) : PE X (.BoolOp .Or (a :: b :: rest) pos) (tOrV ta tb) := by
  intro pins s σ H Q I h
  refine BoolOp_or (thn (ha pins s σ H _ I h) fun v s1 ⟨x, H1, I1, r1, q1⟩ => ?_)
  obtain ⟨c, rfl, q1⟩ := q1
  cases r1
  refine wpAny_truthy_bool ?_
  cases c with
  | false => exact hb pins s1 σ H1 Q I1 q1
  | true => exact ⟨.bl true, H1, I1, rfl, q1⟩
theorem pe_not (ha : PE X a ta) : PE X (.UnaryOp .Not a pos) (tNotV ta) := by
  intro pins s σ H Q I h
  refine UnaryOp_ (thn (ha pins s σ H _ I h) fun v s1 ⟨x, H1, I1, r1, q1⟩ => ?_)
  obtain ⟨c, rfl, q1⟩ := q1
  cases r1
  exact not_of (wpAny_truthy_bool ⟨.bl (!c), H1, I1, rfl, q1⟩)
/-- a if t else b -/
def tIf (t : TT) (ta tb : TE) : TE := fun σ H Q => t σ H fun c H1 => if c = true then ta σ H1 Q else tb σ H1 Q
theorem pe_ifExp {c : Expr} (hc : PT X c tA) (ha : PE X a ta) (hb : PE X b tb) : PE X (.IfExp c a b pos) (tIf tA ta tb) := by
  intro pins s σ H Q I h
  refine wpAny_IfExp (thn (hc pins s σ H _ I h) fun d s1 ⟨H1, I1, q1⟩ => ?_)
  cases d with
  | true => exact ha pins s1 σ H1 Q I1 q1
  | false => exact hb pins s1 σ H1 Q I1 q1
end
end L2

namespace L2
open PySem PySem.Spec PyProof.Rows

/-! ### a list, a tuple that is read: tracked, frozen, or an object of the module -/
def SqL (K : PySem.W.Frag) (H : Hp) (a : Addr) (xs : List V) : Prop :=
  Rd H a (.lst xs) ∨
    ∃ (o : Obj) (its : Array Value) (n : Nat), K.lookup a = some o ∧ o.cls = .type "list" ∧ o.dict = none ∧ o.data = .seq its n ∧ its.size ≤ sizeLine ∧ Vals xs its.toList
def SqT (K : PySem.W.Frag) (H : Hp) (a : Addr) (xs : List V) : Prop :=
  Rd H a (.tup xs) ∨
    ∃ (o : Obj) (its : Array Value) (n : Nat), K.lookup a = some o ∧ o.cls = .type "tuple" ∧ o.data = .seq its n ∧ its.size ≤ sizeLine ∧ Vals xs its.toList
def absV : Value → Option V
  | .none => some .non
  | .bool b => some (.bl b)
  | .int i _ => some (.int i)
  | .str x _ => some (.str x)
  | .bytes b _ => some (.byt b)
  | .float b _ => some (.flt b)
  | .ref a => some (.ref a)
  | .type n => some (.ty n)
  | _ => none
theorem RelV.abs {x : V} {u : Value} (r : RelV x u) : absV u = some x := by
  cases x with
  | non => cases r; rfl
  | bl _ => cases r; rfl
  | int _ => obtain ⟨t, rfl⟩ := r; rfl
  | str _ => obtain ⟨t, rfl⟩ := r; rfl
  | byt _ => obtain ⟨t, rfl⟩ := r; rfl
  | flt _ => obtain ⟨t, rfl⟩ := r; rfl
  | ref _ => cases r; rfl
  | ty _ => cases r; rfl
theorem RelV.inj {x y : V} {u : Value} (r : RelV x u) (q : RelV y u) : x = y := Option.some.inj (r.abs.symm.trans q.abs)
theorem Vals.inj : ∀ {xs ys : List V} {us : List Value}, Vals xs us → Vals ys us → xs = ys
  | _, _, _, .nil, .nil => rfl
  | _, _, _, .cons r t, .cons r' t' => by rw [r.inj r', Vals.inj t t']
section
variable {X : Cx} {pins : List (Addr × Obj)} {σ : St} {H : Hp} {s : Shared} {a : Addr} {xs ys : List V}
theorem SqL.of {K : PySem.W.Frag} (h : H a = some (.lst xs)) : SqL K H a xs := .inl (.inl h)
theorem SqT.of {K : PySem.W.Frag} (h : H a = some (.tup xs)) : SqT K H a xs := .inl (.inl h)
theorem Inv.list (I : Inv X pins σ H s) (h : SqL X.K H a xs) : ∃ its : List Value, Vals xs its ∧ PlainL s.heap a its.toArray ∧ xs.length ≤ sizeLine := by
  rcases h with h | ⟨o, its, n, hk, hc, hd, hs, hz, r⟩
  · obtain ⟨z, its, n, r, e⟩ := h.ok I.hok
    exact ⟨its, r, ⟨_, n, e, rfl, rfl, rfl⟩, z⟩
  · refine ⟨its.toList, r, ⟨o, n, I.kIn a o hk, hc, hd, by simpa using hs⟩, ?_⟩
    have e := r.length
    simp only [Array.length_toList] at e
    omega
theorem Inv.tuple (I : Inv X pins σ H s) (h : SqT X.K H a xs) : ∃ its : List Value, Vals xs its ∧ IsTup s.heap a its.toArray ∧ xs.length ≤ sizeLine := by
  rcases h with h | ⟨o, its, n, hk, hc, hs, hz, r⟩
  · obtain ⟨z, its, r, p⟩ := h.ok I.hok
    exact ⟨its, r, p, z⟩
  · refine ⟨its.toList, r, ⟨o, I.kIn a o hk, hc, n, by simpa using hs⟩, ?_⟩
    have e := r.length
    simp only [Array.length_toList] at e
    omega
theorem Inv.list_inj (I : Inv X pins σ H s) (h : SqL X.K H a xs) (h' : SqL X.K H a ys) : xs = ys := by
  obtain ⟨its, r, ⟨o, n, e, _, _, d⟩, _⟩ := I.list h
  obtain ⟨its', r', ⟨o', n', e', _, _, d'⟩, _⟩ := I.list h'
  rw [e] at e'; cases e'
  rw [d] at d'
  injection d' with d1 _
  have : its = its' := by simpa using congrArg Array.toList d1
  subst this
  exact r.inj r'
end

/-! ### another wish about exceptions -/
abbrev Cx.wish (X : Cx) (E : Value → Shared → Prop) : Cx := { X with xe := E }
/-- no exception leaves -/
abbrev Cx.nox (X : Cx) : Cx := X.wish fun _ _ => False
theorem Cx.Ok.wish {X : Cx} (ok : X.Ok) (E : Value → Shared → Prop) : (X.wish E).Ok :=
  ⟨ok.mod, ok.kind, ok.glob, ok.blt, ok.above, ok.inj, ok.has, ok.cab, ok.hd, ok.frames, ok.stk, ok.exf, ok.bs, ok.bsz, ok.noex, ok.exfs, ok.funs, ok.frf⟩
theorem Cx.Ok.unwish {X : Cx} {E : Value → Shared → Prop} (ok : (X.wish E).Ok) : X.Ok :=
  ⟨ok.mod, ok.kind, ok.glob, ok.blt, ok.above, ok.inj, ok.has, ok.cab, ok.hd, ok.frames, ok.stk, ok.exf, ok.bs, ok.bsz, ok.noex, ok.exfs, ok.funs, ok.frf⟩
section
variable {X : Cx} {pins : List (Addr × Obj)} {σ : St} {H : Hp} {s : Shared} {E : Value → Shared → Prop}
theorem Inv.wish (I : Inv X pins σ H s) (E : Value → Shared → Prop) : Inv (X.wish E) pins σ H s := ⟨I.ok.wish E, I.os, I.bare, I.base, I.loc, I.cell, I.free, I.freeC, I.pin, I.hok, I.len⟩
theorem Inv.unwish (I : Inv (X.wish E) pins σ H s) : Inv X pins σ H s := ⟨I.ok.unwish, I.os, I.bare, I.base, I.loc, I.cell, I.free, I.freeC, I.pin, I.hok, I.len⟩
theorem SP.unwish {D : Ends} {f : Flow} {s' : Shared} (h : SP (X.wish E) pins D f s') : SP X pins D f s' := by
  cases f with
  | next => obtain ⟨σ', H', I, q⟩ := h; exact ⟨σ', H', I.unwish, q⟩
  | brk => obtain ⟨σ', H', I, q⟩ := h; exact ⟨σ', H', I.unwish, q⟩
  | cont => obtain ⟨σ', H', I, q⟩ := h; exact ⟨σ', H', I.unwish, q⟩
  | ret u => obtain ⟨v, σ', H', I, r, q⟩ := h; exact ⟨v, σ', H', I.unwish, r, q⟩
theorem PSs.nox {st : List Stmt} {t : TS} (h : PSs X.nox st t) : PSs X st t := fun pins s σ H D I hw =>
  wpAny_mono (h pins s σ H D (I.wish _) hw) (fun _ _ q => q.unwish) fun _ _ z => False.elim z
end

/-! ### blocks and small statements -/
section
variable {X : Cx} {st : Stmt} {rest : List Stmt} {t u : TS} {e : Expr} {te : TE} {pos : Pos}
def tNext : TS := fun D σ H => D.nx σ H
def tSeq (t u : TS) : TS := fun D σ H => t { D with nx := u D } σ H
theorem pss_nil : PSs X [] tNext := fun _ _ σ H _ I h => wpAny_execs_nil ⟨σ, H, I, h⟩
theorem pss_cons (h1 : PS X st t) (h2 : PSs X rest u) : PSs X (st :: rest) (tSeq t u) := by
  intro pins s σ H D I h
  refine wpAny_execs_cons (thn (h1 pins s σ H { D with nx := u D } I h) fun f s1 q => ?_)
  cases f with
  | next =>
    obtain ⟨σ', H', I', q⟩ := q
    exact h2 pins s1 σ' H' D I' q
  | ret v => exact q
  | brk => exact q
  | cont => exact q
theorem pss_one (h1 : PS X st t) : PSs X [st] t := by
  intro pins s σ H D I h
  refine wpAny_execs_cons (thn (h1 pins s σ H D I h) fun f s1 q => ?_)
  cases f with
  | next => exact wpAny_execs_nil q
  | ret v => exact q
  | brk => exact q
  | cont => exact q
/-- in a def's body nothing is shown -/
theorem Inv.quiet {pins : List (Addr × Obj)} {σ : St} {H : Hp} {s : Shared} (I : Inv X pins σ H s) : interactive X.env = false := by simp [interactive, I.ok.kind]
/-- an expression whose value is dropped -/
def tDrop (te : TE) : TS := fun D σ H => te σ H fun _ H1 => D.nx σ H1
theorem ps_expr (he : PE X e te) (hs : swapsWith e none pos.line X.env = pure false := by rfl) : PS X (.Expr e pos) (tDrop te) := by
  intro pins s σ H D I h
  exact wpAny_Expr_any (thn (he pins s σ H _ I h) fun v s1 ⟨x, H1, I1, r1, q1⟩ => ⟨σ, H1, I1, q1⟩) I.quiet hs
def tRet (te : TE) : TS := fun D σ H => te σ H D.rt
theorem ps_ret (he : PE X e te) : PS X (.Return (some e) pos) (tRet te) := by
  intro pins s σ H D I h
  exact wpAny_Return_some (thn (he pins s σ H _ I h) fun v s1 ⟨x, H1, I1, r1, q1⟩ => ⟨x, σ, H1, I1, r1, q1⟩)
def tIfS (c : TT) (t u : TS) : TS := fun D σ H => c σ H fun b H1 => if b = true then t D σ H1 else u D σ H1
theorem ps_if {c : Expr} {a b : List Stmt} {tc : TT} (hc : PT X c tc) (ha : PSs X a t) (hb : PSs X b u) : PS X (.If c a b pos) (tIfS tc t u) := by
  intro pins s σ H D I h
  refine wpAny_If (thn (hc pins s σ H _ I h) fun d s1 ⟨H1, I1, q1⟩ => ?_)
  cases d with
  | true => exact ha pins s1 σ H1 D I1 q1
  | false => exact hb pins s1 σ H1 D I1 q1
end

/-! ### targets -/
abbrev TG := V → St → Hp → (St → Hp → Prop) → Prop
abbrev TGs := List V → St → Hp → (St → Hp → Prop) → Prop
def PG (X : Cx) (target : Expr) (t : TG) : Prop :=
  ∀ (pins : List (Addr × Obj)) (s : Shared) (σ : St) (H : Hp) (v : V) (u : Value) (Q : St → Hp → Prop), Inv X pins σ H s → RelV v u → t v σ H Q →
    wpAny (model X.prog X.w) X.A (assign target X.env u) (fun _ s' => ∃ σ' H', Inv X pins σ' H' s' ∧ Q σ' H') X.xe s
/-- several targets, one after another -/
def PGs (X : Cx) (ts : List Expr) (t : TGs) : Prop :=
  ∀ (pins : List (Addr × Obj)) (s : Shared) (σ : St) (H : Hp) (vs : List V) (us : List Value) (Q : St → Hp → Prop), Inv X pins σ H s → Vals vs us → t vs σ H Q →
    wpAny (model X.prog X.w) X.A (assignInOrder ((assignEach ts X.env).map (·.2)) us) (fun _ s' => ∃ σ' H', Inv X pins σ' H' s' ∧ Q σ' H') X.xe s
section
variable {X : Cx} {pos : Pos}
def gName (i : Nat) : TG := fun v σ H Q => Q (σ.set i (some v)) H
theorem pg_name {i : Nat} {x : Str} (hN : X.N.Nodup) (hi : X.N[i]? = some x) (hx : Loc X.env.scope x) (hf : X.fn x = true ∨ X.env.scope.names.lookup x = some .local := by first | exact .inl rfl | exact .inr rfl | assumption) : PG X (.Name x pos) (gName i) := by
  intro pins s σ H v u Q I r h
  exact wpAny_assign_Name (store_ok I hN hi hx r (fun s' I' => ⟨_, H, I', h⟩) hf)
def gNil : TGs := fun vs σ H Q => vs = [] ∧ Q σ H
def gCons (t : TG) (u : TGs) : TGs := fun vs σ H Q => ∃ v r, vs = v :: r ∧ t v σ H fun σ' H' => u r σ' H' Q
theorem pgs_nil : PGs X [] gNil := by
  intro pins s σ H vs us Q I r h
  obtain ⟨e, h⟩ := h
  subst e
  cases r
  exact assignInOrder_nil ⟨σ, H, I, h⟩
theorem pgs_cons {e : Expr} {es : List Expr} {t : TG} {u : TGs} (h1 : PG X e t) (h2 : PGs X es u)
    (hs : (assignEach (e :: es) X.env).map (·.2) = assign e X.env :: (assignEach es X.env).map (·.2) := by rfl) : PGs X (e :: es) (gCons t u) := by
  intro pins s σ H vs us Q I r h
  obtain ⟨v, vr, e1, h⟩ := h
  subst e1
  cases r with
  | cons r rr =>
    rw [hs]
    refine assignInOrder_cons (thn (h1 pins s σ H _ _ _ I r h) fun _ s1 ⟨σ1, H1, I1, q1⟩ => ?_)
    exact h2 pins s1 σ1 H1 _ _ Q I1 rr q1
/-- (a, b, ..) = a tuple of that length -/
def gTup (K : PySem.W.Frag) (n : Nat) (t : TGs) : TG := fun v σ H Q => ∃ a xs, v = .ref a ∧ SqT K H a xs ∧ xs.length = n ∧ t xs σ H Q
theorem pg_tup {es : List Expr} {k : Nat} {t : TGs} {n : Nat} (hc : X.calm = true) (h : PGs X es t)
    (hn : (assignEach es X.env).length = n := by rfl) (hst : (assignEach es X.env).findIdx? (·.1) = none := by rfl) : PG X (.Tuple es k pos) (gTup X.K n t) := by
  intro pins s σ H v u Q I r hw
  obtain ⟨a, xs, e1, hq, hl, hw⟩ := hw
  subst e1
  cases r
  obtain ⟨its, rv, ht, hz⟩ := I.tuple hq
  refine assign_Tuple_tuple (I.ok.hd hc) ht (by simp [hn, ← hl, rv.length]) hst fun h' hx => ?_
  have I1 : Inv X pins σ H { s with heap := h' } := I.kept (t' := s.toks) fun b o e => hx b o (Nat.ne_of_lt (Heap.lt_size e)) e
  exact h pins _ σ H xs _ Q I1 (by simpa using rv) hw
/-- target = value -/
def tAsg (te : TE) (g : TG) : TS := fun D σ H => te σ H fun x H1 => g x σ H1 D.nx
theorem ps_asg {tg e : Expr} {te : TE} {g : TG} (he : PE X e te) (hg : PG X tg g) (hs : swapsWithSole [tg] e pos.line X.env = pure false := by rfl) (hw : swappedStores [tg] e X.env = pure none := by rfl)
    (h1 : (assignEach [tg] X.env).map (·.2) = [assign tg X.env] := by rfl) : PS X (.Assign [tg] e pos) (tAsg te g) := by
  intro pins s σ H D I h
  refine wpAny_Assign_stores (thn (he pins s σ H _ I h) fun v s1 ⟨x, H1, I1, r1, q1⟩ => ?_) hs hw
  rw [h1]
  exact thn (hg pins s1 σ H1 x v _ I1 r1 q1) fun _ s2 q => q
/-- name = value -/
theorem ps_set {i : Nat} {x : Str} {e : Expr} {te : TE} {pos' : Pos} (hN : X.N.Nodup) (hi : X.N[i]? = some x) (hx : Loc X.env.scope x) (he : PE X e te) (hs : swapsWith e (some (.Name x pos')) pos.line X.env = pure false := by rfl) (hf : X.fn x = true ∨ X.env.scope.names.lookup x = some .local := by first | exact .inl rfl | exact .inr rfl | assumption) :
    PS X (.Assign [.Name x pos'] e pos) (tAsg te (gName i)) := by
  intro pins s σ H D I h
  refine wpAny_Assign_Name (thn (he pins s σ H _ I h) fun v s1 ⟨y, H1, I1, r1, q1⟩ => ?_) hs
  exact store_ok I1 hN hi hx r1 (fun s2 I2 => ⟨_, H1, I2, q1⟩) hf
end

/-! ### while -/
section
variable {X : Cx} {pos : Pos}
/-- the invariant W with its measure -/
def tWhile (c : TT) (tb : TS) : TS := fun D σ H => ∃ W : Nat → St → Hp → Prop, (∃ m, W m σ H) ∧ ∀ m σ H, W m σ H →
  c σ H fun b H1 => if b = true then ∃ N : St → Hp → Prop, (∀ σ' H', N σ' H' → ∃ m', m' < m ∧ W m' σ' H') ∧ tb { D with nx := N, ct := N, bk := D.nx } σ H1 else D.nx σ H1
theorem ps_while {c : Expr} {body : List Stmt} {tc : TT} {tb : TS} (hp : PassesOwn (model X.prog X.w) X.A X.env X.xe) (hc : PT X c tc) (hb : PSs X body tb) : PS X (.While c body [] pos) (tWhile tc tb) := by
  intro pins s σ H D I h
  obtain ⟨W, ⟨m0, w0⟩, turn⟩ := h
  refine wpAny_While (codeAny_whileLoop (fun n s' => ∃ σ' H', Inv X pins σ' H' s' ∧ W n σ' H') ?_ m0 ⟨σ, H, I, w0⟩)
  rintro n s1 ⟨σ1, H1, I1, w1⟩
  refine wpAny_passesOwn hp (thn (hc pins s1 σ1 H1 _ I1 (turn n σ1 H1 w1)) fun b s2 ⟨H2, I2, q2⟩ => ?_)
  cases b with
  | true =>
    obtain ⟨N, hN, q2⟩ := q2
    rw [if_pos rfl]
    refine wpAny_passesOwn hp (thn (hb pins s2 σ1 H2 _ I2 q2) fun f s3 q3 => ?_)
    cases f with
    | next =>
      obtain ⟨σ3, H3, I3, n3⟩ := q3
      obtain ⟨m', hm, w3⟩ := hN σ3 H3 n3
      exact ⟨m', hm, σ3, H3, I3, w3⟩
    | cont =>
      obtain ⟨σ3, H3, I3, n3⟩ := q3
      obtain ⟨m', hm, w3⟩ := hN σ3 H3 n3
      exact ⟨m', hm, σ3, H3, I3, w3⟩
    | brk => exact q3
    | ret v => exact q3
  | false =>
    rw [if_neg Bool.false_ne_true]
    exact wpAny_execs_nil ⟨σ1, H2, I2, q2⟩
end

/-! ### what a loop or a comprehension walks -/
/-- at turn i: it yields x (the heap may grow), or it stops -/
structure It where
  go : Nat → Hp → Prop
  yld : Nat → Hp → V → Hp → Prop
  stop : Nat → Hp → Prop
/-- the iterator's own objects may turn: they are not the frame's, not pinned, younger than the entry (or a comprehension's own) -/
def FpOk (X : Cx) (pins : List (Addr × Obj)) (H : Hp) (b : Addr) : Prop :=
  H b = none ∧ b ≠ X.env.locals ∧ b ∉ X.fs ∧ (b ∈ X.ex ∨ X.s₀.heap.objs.size ≤ b) ∧ (∀ x c, X.env.cells.lookup x = some c → c ≠ b) ∧ ∀ p ∈ X.pn ++ pins, p.1 ≠ b
theorem Inv.fpOk {X : Cx} {pins : List (Addr × Obj)} {σ : St} {H H' : Hp} {s : Shared} {b : Addr} (I : Inv X pins σ H s) (hb : s.heap.objs.size ≤ b) (hn : H' b = none) : FpOk X pins H' b := by
  refine ⟨hn, Nat.ne_of_gt (Nat.lt_of_lt_of_le I.lt hb), I.nofs hb, .inr (Nat.le_trans I.sz hb), fun x c e z => ?_, fun p hp z => ?_⟩
  · obtain ⟨v, q⟩ := I.cell x c e
    exact absurd (Nat.lt_of_lt_of_le q.lt (by rw [z]; exact hb)) (Nat.lt_irrefl _)
  · exact absurd (Nat.lt_of_lt_of_le (Heap.lt_size (I.pin p hp).1) (by rw [z]; exact hb)) (Nat.lt_irrefl _)
structure Turn (P : Program) (w : World) (K : PySem.W.Frag) (tg : Expr) (J : It) (fp : List Addr) (it : Addr) (tn : Nat → Heap → Prop) : Prop where
  mem : it ∈ fp
  obj : ∀ i h, tn i h → ∀ b ∈ fp, ∃ o, h.get? b = some o ∧ ∀ v, o.data ≠ .cell v
  keep : ∀ i h h', tn i h → (∀ b ∈ fp, ∀ o, h.get? b = some o → h'.get? b = some o) → tn i h'
  item : ∀ (X : Cx), X.prog = P → X.w = w → X.K = K → X.calm = true → ∀ (i : Nat) (pins : List (Addr × Obj)) (s : Shared) (σ : St) (H : Hp) (E : Value → Shared → Prop), Inv X pins σ H s → (∀ b ∈ fp, FpOk X pins H b) → tn i s.heap → J.go i H →
    wpAny (model P w) X.A (pyNext (.ref it)) (fun r s1 => ∃ u, r = some u ∧
      wpAny (model P w) X.A (letOwnedTupleGo tg (.ref it) u) (fun _ s2 => ∃ x H', Inv X pins σ H' s2 ∧ RelV x u ∧ J.yld i H x H' ∧ tn (i + 1) s2.heap ∧ ∀ b ∈ fp, H' b = none) E s1) E s
  done : ∀ (X : Cx), X.prog = P → X.w = w → X.K = K → X.calm = true → ∀ (i : Nat) (pins : List (Addr × Obj)) (s : Shared) (σ : St) (H : Hp) (E : Value → Shared → Prop), Inv X pins σ H s → (∀ b ∈ fp, FpOk X pins H b) → tn i s.heap → J.stop i H →
    wpAny (model P w) X.A (pyNext (.ref it)) (fun r s1 => r = none ∧ Inv X pins σ H s1) E s
  self : ∀ (A : Around) (i : Nat) (s : Shared) (Q : Value → Shared → Prop) (E : Value → Shared → Prop), tn i s.heap → Q (.ref it) s → wpAny (model P w) A (pyIter (.ref it)) Q E s
abbrev TI := St → Hp → (It → Hp → Prop) → Prop
/-- an iterator has come -/
def PIE (X : Cx) (pins : List (Addr × Obj)) (σ : St) (tg : Expr) (R : It → Hp → Prop) (itv : Value) (s2 : Shared) : Prop :=
  ∃ (it : Addr) (fp : List Addr) (tn : Nat → Heap → Prop) (J : It) (H' : Hp), itv = .ref it ∧ Inv X pins σ H' s2 ∧ Turn X.prog X.w X.K tg J fp it tn ∧ tn 0 s2.heap ∧ (∀ b ∈ fp, FpOk X pins H' b) ∧ R J H'
def PI (X : Cx) (tg iter : Expr) (wi : TI) : Prop :=
  ∀ (pins : List (Addr × Obj)) (s : Shared) (σ : St) (H : Hp) (R : It → Hp → Prop), Inv X pins σ H s → wi σ H R →
    wpAny (model X.prog X.w) X.A (eval iter X.env) (fun v s1 => wpAny (model X.prog X.w) X.A (pyIter v) (PIE X pins σ tg R) X.xe s1) X.xe s

/-- the step ahead of the store is nothing for an iterator that keeps no tuple -/
theorem go_of {M : Model} {A : Around} {E : Value → Shared → Prop} {s : Shared} {tg : Expr} {it : Addr} {u : Value} {o : Obj} {n : String} {vs : Array Value} {Q : Unit → Shared → Prop} (ho : s.heap.get? it = some o) (hc : o.cls = .type n) (hd : o.data = .fields vs)
    (hn : ["enumerate", "zip", "dict_itemiterator", "dict_reverseitemiterator", "odict_iterator", "itertools.zip_longest", "itertools.pairwise"].contains n = false) (hQ : Q () s) : wpAny M A (letOwnedTupleGo tg (.ref it) u) Q E s := by
  unfold letOwnedTupleGo
  cases tg <;> first
    | exact wpAny_pure hQ
    | (cases u <;> first
        | exact wpAny_pure hQ
        | (refine wpAny_bind (wpAny_load ho ?_)
           rw [hc, hd]
           show wpAny M A (if (["enumerate", "zip", "dict_itemiterator", "dict_reverseitemiterator", "odict_iterator", "itertools.zip_longest", "itertools.pairwise"].contains n && vs[0]? == some (rawInt _)) = true then _ else _) Q E s
           rw [if_neg (by intro h; rw [hn, Bool.false_and] at h; cases h)]
           exact wpAny_pure hQ))

/-- the list at a, as it stands at each turn (a loop may append to it) -/
def Itl (K : PySem.W.Frag) (a : Addr) : It :=
  ⟨fun i H => ∃ xs x, SqL K H a xs ∧ xs[i]? = some x, fun i H x H' => H' = H ∧ ∀ xs, SqL K H a xs → xs[i]? = some x, fun i H => ∃ xs, SqL K H a xs ∧ xs.length ≤ i⟩
/-- lo, lo + 1, .. (n of them) -/
def Itr (lo : Int) (n : Nat) : It := ⟨fun i _ => i < n, fun i H x H' => H' = H ∧ x = .int (lo + i), fun i _ => n ≤ i⟩
theorem turn_list {P : Program} {w : World} {K : PySem.W.Frag} {tg : Expr} (a it : Addr) : Turn P w K tg (Itl K a) [it] it (fun i h => h.IsListIter it a i) where
  mem := by simp
  obj := fun i h st b hb => by
    have e : b = it := by simpa using hb
    subst e
    obtain ⟨o, e, c, d⟩ := st
    exact ⟨o, e, fun v z => by rw [d] at z; cases z⟩
  keep := fun i h h' st k => st.at fun o e => k it (by simp) o e
  item := by
    intro X hP hw hK hc i pins s σ H E I hf st hg
    subst hP hw hK
    obtain ⟨xs, x, hq, hx⟩ := hg
    obtain ⟨its, rv, p, hz⟩ := I.list hq
    obtain ⟨u, hu, ru⟩ := rv.get hx
    obtain ⟨f0, f1, f2, f3, f4, f5⟩ := hf it (by simp)
    refine wpAny_pyNext_list_item st p.isList (x := u) (by simpa using hu) fun h' st' sb => ?_
    have I1 : Inv X pins σ H { s with heap := h' } := I.turned (t' := s.toks) (fun b o hb e => (sb.2 b hb).trans e) f0 f1 f3 f4 f5
    obtain ⟨o, e, c, d⟩ := id st'
    exact ⟨u, rfl, go_of (s := { s with heap := h' }) e c d (by decide) ⟨x, H, I1, ru, ⟨rfl, fun ys hy => by rw [I.list_inj hy hq]; exact hx⟩, st', fun b hb => (hf b hb).1⟩⟩
  done := by
    intro X hP hw hK hc i pins s σ H E I hf st hg
    subst hP hw hK
    obtain ⟨xs, hq, hx⟩ := hg
    obtain ⟨its, rv, p, hz⟩ := I.list hq
    obtain ⟨f0, f1, f2, f3, f4, f5⟩ := hf it (by simp)
    have hl := rv.length
    exact wpAny_pyNext_list_end (I.ok.hd hc) st p.isList (by simp; omega) fun h' eb => ⟨rfl, I.turned (t' := s.toks) (fun b o hb e => eb b o hb e) f0 f1 f3 f4 f5⟩
  self := fun _ _ _ _ _ st h => wpAny_pyIter_listiter st h
theorem turn_range {P : Program} {w : World} {K : PySem.W.Frag} {tg : Expr} (it : Addr) (lo : Int) (n : Nat) : Turn P w K tg (Itr lo n) [it] it (fun i h => IsRangeIter h it (lo + (i : Nat) * 1) ((n : Int) - (i : Nat)) 1) where
  mem := by simp
  obj := fun i h st b hb => by
    have e : b = it := by simpa using hb
    subst e
    exact ⟨_, st, fun v z => by
      have z' : Data.fields _ = Data.cell v := z
      cases z'⟩
  keep := fun i h h' st k => k it (by simp) _ st
  item := by
    intro X hP hw hK hc i pins s σ H E I hf st hg
    subst hP hw hK
    obtain ⟨f0, f1, f2, f3, f4, f5⟩ := hf it (by simp)
    have W := Walks.range (prog := X.prog) (w := X.w) (I.ok.hd hc) it lo 1 n
    refine W.item i s _ _ hg st fun v h' tk hv st' kk => ?_
    obtain ⟨t, rfl⟩ := hv
    have I1 : Inv X pins σ H { s with heap := h', toks := tk } := I.turned (fun b o hb e => kk b o (by simpa using hb) e) f0 f1 f3 f4 f5
    refine ⟨_, rfl, go_of (s := { s with heap := h', toks := tk }) (n := "range_iterator") st' rfl rfl (by decide) ⟨.int (lo + i), H, I1, ⟨t, ?_⟩, ⟨rfl, rfl⟩, st', fun b hb => (hf b hb).1⟩⟩
    rw [Int.mul_one]
  done := by
    intro X hP hw hK hc i pins s σ H E I hf st hg
    subst hP hw hK
    obtain ⟨f0, f1, f2, f3, f4, f5⟩ := hf it (by simp)
    exact wpAny_pyNext_range_end (I.ok.hd hc) st (by have : n ≤ i := hg; omega) fun h' eb => ⟨rfl, I.turned (t' := s.toks) (fun b o hb e => eb b o hb e) f0 f1 f3 f4 f5⟩
  self := fun _ _ _ _ _ st h => wpAny_pyIter_rangeiter st h
end L2

namespace L2
open PySem PySem.Spec PyProof.Rows
section
variable {X : Cx} {tg : Expr}
def iList (K : PySem.W.Frag) (tl : TE) : TI := fun σ H R => tl σ H fun x H1 => ∃ a, x = .ref a ∧ (∃ xs, SqL K H1 a xs) ∧ R (Itl K a) H1
theorem pi_list {l : Expr} {tl : TE} (hl : PE X l tl) : PI X tg l (iList X.K tl) := by
  intro pins s σ H R I h
  refine thn (hl pins s σ H _ I h) fun v s1 ⟨x, H1, I1, r1, q1⟩ => ?_
  obtain ⟨a, e, ⟨xs, hq⟩, q⟩ := q1
  subst e
  cases r1
  obtain ⟨its, rv, p, hz⟩ := I1.list hq
  refine wpAny_pyIter_list p.isList ?_
  refine ⟨s1.heap.objs.size, [s1.heap.objs.size], _, _, H1, rfl, I1.kept (t' := s1.toks) fun b o e => Heap.get?_push_of_some _ e, turn_list a _, ⟨_, Heap.get?_push_size _ rfl, rfl, rfl⟩, fun b hb => ?_, q⟩
  have e : b = s1.heap.objs.size := by simpa using hb
  subst e
  exact I1.fpOk (Nat.le_refl _) (I1.hok.fresh (Nat.le_refl _))
/-- a range object just made, walked -/
theorem range_it {pins : List (Addr × Obj)} {σ : St} {H : Hp} {s : Shared} {R : It → Hp → Prop} {E : Value → Shared → Prop} {lo hi : Int} {t u v : Tok} {tk : Nat} (I : Inv X pins σ H s) (h1 : -(2 ^ 62) ≤ lo) (h2 : lo < 2 ^ 62) (h3 : -(2 ^ 62) ≤ hi) (h4 : hi < 2 ^ 62)
    (q : R (Itr lo (hi - lo).toNat) H) : wpAny (model X.prog X.w) X.A (pyIter (.ref s.heap.objs.size)) (PIE X pins σ tg R) E { s with heap := s.heap.push { cls := .type "range", data := .fields #[.int lo t, .int hi u, .int 1 v] }, toks := tk } := by
  refine wpAny_pyIter_range (IsRange.new ..) (small_one h1 h2 h3 h4) ?_
  have I1 : Inv X pins σ H { s with heap := s.heap.push { cls := .type "range", data := .fields #[.int lo t, .int hi u, .int 1 v] }, toks := tk } := I.kept fun b o e => Heap.get?_push_of_some _ e
  refine ⟨(s.heap.push { cls := .type "range", data := .fields #[.int lo t, .int hi u, .int 1 v] }).objs.size, [(s.heap.push { cls := .type "range", data := .fields #[.int lo t, .int hi u, .int 1 v] }).objs.size], _, _, H, rfl,
    I1.kept (t' := tk) fun b o e => Heap.get?_push_of_some _ e, turn_range _ lo (hi - lo).toNat, ?_, fun b hb => ?_, q⟩
  · have e1 : lo + ((0 : Nat) : Int) * 1 = lo := by simp
    have e2 : (((hi - lo).toNat : Nat) : Int) - ((0 : Nat) : Int) = Builtin.Range.rangeSize lo hi 1 := by rw [rangeSize_one]; split <;> omega
    show IsRangeIter _ _ (lo + ((0 : Nat) : Int) * 1) ((((hi - lo).toNat : Nat) : Int) - ((0 : Nat) : Int)) 1
    rw [e1, e2]
    exact Heap.get?_push_size _ rfl
  · have e : b = (s.heap.push { cls := .type "range", data := .fields #[.int lo t, .int hi u, .int 1 v] }).objs.size := by simpa using hb
    subst e
    exact I1.fpOk (Nat.le_refl _) (I1.hok.fresh (Nat.le_refl _))
def iRng1 (ta : TA) : TI := fun σ H R => ta σ H fun vs H1 => ∃ j : Int, vs = [.int j] ∧ -(2 ^ 62) ≤ j ∧ j < 2 ^ 62 ∧ R (Itr 0 j.toNat) H1
theorem pi_range1 {a : Expr} {ta : TA} {p pos : Pos} (hg : Gl X "range") (hm : X.mg "range" = none) (ha : PA X [a] ta) (hs : starEach [a] X.env = [(false, eval a X.env)] := by rfl) : PI X tg (.Call (.Name "range" p) [a] [] pos) (iRng1 ta) := by
  intro pins s σ H R I h
  refine Call_ (ld_blt I hg hm boot_range (PyProof.Rows.callWith_type1 (thn (ha pos pins s σ H _ I h) fun us s1 ⟨vs, H1, I1, r1, q1⟩ => ?_) hs rfl))
  obtain ⟨j, e, q1, q2, q⟩ := q1
  subst e
  cases r1 with
  | cons r rr =>
    cases rr
    obtain ⟨t, rfl⟩ := r
    exact call_range_1 (range_it I1 (by omega) (by omega) q1 q2 (by simpa using q))
/-! ### for -/
/-- W: the invariant by the turn and a measure; N: what the body is to reach -/
def tFor (wi : TI) (g : TG) (tb : TS) : TS := fun D σ H => wi σ H fun J H1 => ∃ W : Nat → Nat → St → Hp → Prop, (∃ m, W 0 m σ H1) ∧ ∀ i m σ H, W i m σ H →
  (J.stop i H ∧ D.nx σ H) ∨ (J.go i H ∧ ∃ N : St → Hp → Prop, (∀ σ' H', N σ' H' → ∃ m', m' < m ∧ W (i + 1) m' σ' H') ∧ ∀ x H', J.yld i H x H' → g x σ H' fun σ2 H2 => tb { D with nx := N, ct := N, bk := D.nx } σ2 H2)
/-- the records at fp as they stand -/
def pinsAt (fp : List Addr) (h : Heap) : List (Addr × Obj) := fp.filterMap fun b => (h.get? b).map fun o => (b, o)
theorem mem_pinsAt {fp : List Addr} {h : Heap} {b : Addr} {o : Obj} (hb : b ∈ fp) (e : h.get? b = some o) : (b, o) ∈ pinsAt fp h := List.mem_filterMap.mpr ⟨b, hb, by rw [e]; rfl⟩
theorem of_pinsAt {fp : List Addr} {h : Heap} {p : Addr × Obj} (hp : p ∈ pinsAt fp h) : p.1 ∈ fp ∧ h.get? p.1 = some p.2 := by
  obtain ⟨b, hb, e⟩ := List.mem_filterMap.mp hp
  cases q : h.get? b with
  | none => rw [q] at e; cases e
  | some o =>
    rw [q] at e
    have e' : (b, o) = p := Option.some.inj e
    subst e'
    exact ⟨hb, q⟩
theorem Inv.pinned {pins : List (Addr × Obj)} {σ : St} {H : Hp} {s : Shared} {fp : List Addr} (I : Inv X pins σ H s) (hf : ∀ b ∈ fp, FpOk X pins H b) (ho : ∀ b ∈ fp, ∃ o, s.heap.get? b = some o ∧ ∀ v, o.data ≠ .cell v) : Inv X (pins ++ pinsAt fp s.heap) σ H s :=
  I.pins_of fun p hp => (List.mem_append.mp hp).elim (fun z => I.pin p (List.mem_append_right _ z)) fun z => by
    obtain ⟨hb, e⟩ := of_pinsAt z
    obtain ⟨f0, f1, f2, _⟩ := hf p.1 hb
    obtain ⟨o, e', d⟩ := ho p.1 hb
    rw [e] at e'; cases e'
    exact ⟨e, f0, f1, f2, d⟩
theorem Inv.unpinned {pins pl : List (Addr × Obj)} {σ : St} {H : Hp} {s : Shared} (I : Inv X (pins ++ pl) σ H s) : Inv X pins σ H s := I.pins_of fun p hp => I.pin p (List.mem_append_right _ (List.mem_append_left _ hp))
theorem ps_for {iter : Expr} {body : List Stmt} {wi : TI} {g : TG} {tb : TS} {pos : Pos} (hp : PassesOwn (model X.prog X.w) X.A X.env X.xe) (hc : X.calm = true) (hi : PI X tg iter wi) (hg : PG X tg g) (hb : PSs X body tb)
    (hs : ∀ x, foldedSetIterable iter X.env x = pure x := by intro _; rfl) : PS X (.For tg iter body [] pos) (tFor wi g tb) := by
  intro pins s σ H D I h
  refine wpAny_For (thn (hi pins s σ H _ I h) fun v s1 h1 => thn h1 fun itv s2 h2 => ?_) hs
  obtain ⟨it, fp, tn, J, H2, e, I2, T, st2, f2, W, ⟨m0, w0⟩, turn⟩ := h2
  subst e
  -- what stays true of the iterator's objects through the loop
  have stat : ∀ {H' : Hp}, (∀ b ∈ fp, H' b = none) → ∀ b ∈ fp, FpOk X pins H' b := fun hn b hb => ⟨hn b hb, (f2 b hb).2⟩
  refine codeAny_forLoop_any (fun n s' => ∃ i σ' H', Inv X pins σ' H' s' ∧ tn i s'.heap ∧ (∀ b ∈ fp, H' b = none) ∧ W i n σ' H') ?_ m0 ⟨0, σ, H2, I2, st2, fun b hb => (f2 b hb).1, w0⟩
  rintro n s3 ⟨i, σ3, H3, I3, st3, fr3, w3⟩
  rcases turn i n σ3 H3 w3 with ⟨stop, qn⟩ | ⟨go, N, hN, step⟩
  · refine wpAny_passesOwn hp (thn (T.done X rfl rfl rfl hc i pins s3 σ3 H3 X.xe I3 (stat fr3) st3 stop) fun r s4 ⟨hr, I4⟩ => ?_)
    subst hr
    exact wpAny_execs_nil ⟨σ3, H3, I4, qn⟩
  · refine wpAny_passesOwn hp (thn (T.item X rfl rfl rfl hc i pins s3 σ3 H3 X.xe I3 (stat fr3) st3 go) fun r s4 ⟨u, hr, h4⟩ => ?_)
    subst hr
    refine wpAny_passesOwn hp (thn h4 fun _ s5 ⟨x, H5, I5, r5, y5, st5, fr5⟩ => ?_)
    have I5' := I5.pinned (stat fr5) (T.obj _ _ st5)
    refine wpAny_passesOwn hp (thn (hg _ s5 σ3 H5 x u _ I5' r5 (step x H5 y5)) fun _ s6 ⟨σ6, H6, I6, q6⟩ => ?_)
    refine wpAny_passesOwn hp (thn (hb _ s6 σ6 H6 _ I6 q6) fun f s7 q7 => ?_)
    have again : ∀ {σ7 : St} {H7 : Hp}, Inv X (pins ++ pinsAt fp s5.heap) σ7 H7 s7 → N σ7 H7 → ∃ m, m < n ∧ ∃ i σ' H', Inv X pins σ' H' s7 ∧ tn i s7.heap ∧ (∀ b ∈ fp, H' b = none) ∧ W i m σ' H' := fun {σ7 H7} I7 n7 => by
      obtain ⟨m', hm, w7⟩ := hN σ7 H7 n7
      refine ⟨m', hm, i + 1, σ7, H7, I7.unpinned, T.keep _ _ _ st5 fun b hb o e => (I7.pin (b, o) (List.mem_append_right _ (List.mem_append_right _ (mem_pinsAt hb e)))).1, fun b hb => ?_, w7⟩
      obtain ⟨o, e, d⟩ := T.obj _ _ st5 b hb
      exact (I7.pin (b, o) (List.mem_append_right _ (List.mem_append_right _ (mem_pinsAt hb e)))).2.1
    cases f with
    | next => obtain ⟨σ7, H7, I7, n7⟩ := q7; exact again I7 n7
    | cont => obtain ⟨σ7, H7, I7, n7⟩ := q7; exact again I7 n7
    | brk => obtain ⟨σ7, H7, I7, q7⟩ := q7; exact ⟨σ7, H7, I7.unpinned, q7⟩
    | ret v => obtain ⟨x7, σ7, H7, I7, r7, q7⟩ := q7; exact ⟨x7, σ7, H7, I7.unpinned, r7, q7⟩
end

/-! ### the forms one uses -/
/-- over a list that the body leaves as it is -/
theorem for_list {K : PySem.W.Frag} {a : Addr} {xs : List V} {g : TG} {tb : TS} {D : Ends} {σ : St} {H : Hp} (Pv : Nat → St → Hp → Prop) (h0 : Pv 0 σ H) (hl : ∀ i σ H, i ≤ xs.length → Pv i σ H → SqL K H a xs)
    (hs : ∀ i x σ H, xs[i]? = some x → Pv i σ H → g x σ H fun σ2 H2 => tb { D with nx := Pv (i + 1), ct := Pv (i + 1), bk := D.nx } σ2 H2) (hd : ∀ σ H, Pv xs.length σ H → D.nx σ H) :
    ∃ W : Nat → Nat → St → Hp → Prop, (∃ m, W 0 m σ H) ∧ ∀ i m σ H, W i m σ H →
      ((Itl K a).stop i H ∧ D.nx σ H) ∨ ((Itl K a).go i H ∧ ∃ N : St → Hp → Prop, (∀ σ' H', N σ' H' → ∃ m', m' < m ∧ W (i + 1) m' σ' H') ∧ ∀ x H', (Itl K a).yld i H x H' → g x σ H' fun σ2 H2 => tb { D with nx := N, ct := N, bk := D.nx } σ2 H2) := by
  refine ⟨fun i m σ H => m = xs.length - i ∧ i ≤ xs.length ∧ Pv i σ H, ⟨xs.length, by simp, Nat.zero_le _, h0⟩, ?_⟩
  rintro i m σ H ⟨rfl, hi, p⟩
  have q := hl i σ H hi p
  by_cases hlt : i < xs.length
  · refine .inr ⟨⟨xs, xs[i], q, by simp [hlt]⟩, Pv (i + 1), fun σ' H' p' => ⟨xs.length - (i + 1), by omega, rfl, hlt, p'⟩, fun x H' y => ?_⟩
    obtain ⟨e, y⟩ := y
    subst e
    exact hs i x σ _ (y xs q) p
  · have e : i = xs.length := by omega
    subst e
    exact .inl ⟨⟨xs, q, Nat.le_refl _⟩, hd σ H p⟩
theorem for_range {lo : Int} {n : Nat} {g : TG} {tb : TS} {D : Ends} {σ : St} {H : Hp} (Pv : Nat → St → Hp → Prop) (h0 : Pv 0 σ H)
    (hs : ∀ i σ H, i < n → Pv i σ H → g (.int (lo + i)) σ H fun σ2 H2 => tb { D with nx := Pv (i + 1), ct := Pv (i + 1), bk := D.nx } σ2 H2) (hd : ∀ σ H, Pv n σ H → D.nx σ H) :
    ∃ W : Nat → Nat → St → Hp → Prop, (∃ m, W 0 m σ H) ∧ ∀ i m σ H, W i m σ H →
      ((Itr lo n).stop i H ∧ D.nx σ H) ∨ ((Itr lo n).go i H ∧ ∃ N : St → Hp → Prop, (∀ σ' H', N σ' H' → ∃ m', m' < m ∧ W (i + 1) m' σ' H') ∧ ∀ x H', (Itr lo n).yld i H x H' → g x σ H' fun σ2 H2 => tb { D with nx := N, ct := N, bk := D.nx } σ2 H2) := by
  refine ⟨fun i m σ H => m = n - i ∧ i ≤ n ∧ Pv i σ H, ⟨n, by simp, Nat.zero_le _, h0⟩, ?_⟩
  rintro i m σ H ⟨rfl, hi, p⟩
  by_cases hlt : i < n
  · refine .inr ⟨hlt, Pv (i + 1), fun σ' H' p' => ⟨n - (i + 1), by omega, rfl, hlt, p'⟩, fun x H' y => ?_⟩
    obtain ⟨e, y⟩ := y
    subst e y
    exact hs i σ _ hlt p
  · have e : i = n := by omega
    subst e
    exact .inl ⟨Nat.le_refl _, hd σ H p⟩
end L2

namespace L2
open PySem PySem.Spec PyProof.Rows

abbrev R2 := V → V → Hp → VK → Prop
/-- a two-place operation on values: f is binaryOp op, inplaceOp op or compareOp op -/
def OpR (X : Cx) (f : Value → Value → Sem Value) (r : R2) : Prop :=
  ∀ (pins : List (Addr × Obj)) (s : Shared) (σ : St) (H : Hp) (x y : V) (v u : Value) (Q : VK), Inv X pins σ H s → RelV x v → RelV y u → r x y H Q →
    wpAny (model X.prog X.w) X.A (f v u) (EP X pins σ Q) X.xe s
/-- a call of a value that is known (a builtin, a type) with values -/
def CallR (X : Cx) (f : Value) (r : List V → Hp → VK → Prop) : Prop :=
  ∀ (pins : List (Addr × Obj)) (s : Shared) (σ : St) (H : Hp) (xs : List V) (us : List Value) (Q : VK), Inv X pins σ H s → Vals xs us → r xs H Q →
    wpAny (model X.prog X.w) X.A (call f us) (EP X pins σ Q) X.xe s
def tOp (r : R2) (ta tb : TE) : TE := fun σ H Q => ta σ H fun x H1 => tb σ H1 fun y H2 => r x y H2 Q
/-- ints in, under C, and a value out -/
def rI (C : Int → Int → Prop) (g : Int → Int → V) : R2 := fun x y H Q => ∃ i j, x = .int i ∧ y = .int j ∧ C i j ∧ Q (g i j) H
def rI0 (g : Int → Int → V) : R2 := fun x y H Q => ∃ i j, x = .int i ∧ y = .int j ∧ Q (g i j) H
section
variable {X : Cx} {a b c : Expr} {ta tb tc : TE} {pos : Pos}

theorem binT (ha : PE X a ta) (hb : PE X b tb) {pins : List (Addr × Obj)} {s : Shared} {σ : St} {H : Hp} {R : V → V → Hp → Prop} (I : Inv X pins σ H s)
    (h : ta σ H fun x H1 => tb σ H1 fun y H2 => R x y H2) {Q : Value → Shared → Prop} {f : Value → Value → Sem Value}
    (hf : ∀ v u s2 x y H2, Inv X pins σ H2 s2 → RelV x v → RelV y u → R x y H2 → wpAny (model X.prog X.w) X.A (f v u) Q X.xe s2) :
    wpAny (model X.prog X.w) X.A (eval a X.env) (fun v s₁ => wpAny (model X.prog X.w) X.A (eval b X.env) (fun u s₂ => wpAny (model X.prog X.w) X.A (f v u) Q X.xe s₂) X.xe s₁) X.xe s := by
  refine thn (ha pins s σ H _ I h) fun v s1 ⟨x, H1, I1, r1, q1⟩ => ?_
  refine thn (hb pins s1 σ H1 _ I1 q1) fun u s2 ⟨y, H2, I2, r2, q2⟩ => ?_
  exact hf v u s2 x y H2 I2 r1 r2 q2

theorem pe_op {op : Operator} {r : R2} (ho : OpR X (binaryOp op) r) (ha : PE X a ta) (hb : PE X b tb) : PE X (.BinOp a op b pos) (tOp r ta tb) := by
  intro pins s σ H Q I h
  exact wpAny_BinOp (binT ha hb I h fun v u s2 x y H2 I2 rx ry q => ho pins s2 σ H2 x y v u Q I2 rx ry q)
/-! ### ints -/
theorem opI {f : Value → Value → Sem Value} {C : Int → Int → Prop} {g : Int → Int → Int}
    (rule : ∀ (i j : Int) (t u : Tok) (s : Shared) (Q : Value → Shared → Prop) (E : Value → Shared → Prop), C i j → Q (.int (g i j) s.toks) { s with toks := s.toks + 1 } → wpAny (model X.prog X.w) X.A (f (.int i t) (.int j u)) Q E s) :
    OpR X f (rI C fun i j => .int (g i j)) := by
  intro pins s σ H x y v u Q I rx ry h
  obtain ⟨i, j, rfl, rfl, hc, q⟩ := h
  obtain ⟨t, rfl⟩ := rx
  obtain ⟨t', rfl⟩ := ry
  exact rule i j t t' s _ _ hc ⟨.int (g i j), H, I.tok _, ⟨_, rfl⟩, q⟩
theorem opI0 {f : Value → Value → Sem Value} {g : Int → Int → Int}
    (rule : ∀ (i j : Int) (t u : Tok) (s : Shared) (Q : Value → Shared → Prop) (E : Value → Shared → Prop), Q (.int (g i j) s.toks) { s with toks := s.toks + 1 } → wpAny (model X.prog X.w) X.A (f (.int i t) (.int j u)) Q E s) :
    OpR X f (rI0 fun i j => .int (g i j)) := by
  intro pins s σ H x y v u Q I rx ry h
  obtain ⟨i, j, rfl, rfl, q⟩ := h
  obtain ⟨t, rfl⟩ := rx
  obtain ⟨t', rfl⟩ := ry
  exact rule i j t t' s _ _ ⟨.int (g i j), H, I.tok _, ⟨_, rfl⟩, q⟩
theorem opB0 {f : Value → Value → Sem Value} {g : Int → Int → Bool}
    (rule : ∀ (i j : Int) (t u : Tok) (s : Shared) (Q : Value → Shared → Prop) (E : Value → Shared → Prop), Q (.bool (g i j)) s → wpAny (model X.prog X.w) X.A (f (.int i t) (.int j u)) Q E s) :
    OpR X f (rI0 fun i j => .bl (g i j)) := by
  intro pins s σ H x y v u Q I rx ry h
  obtain ⟨i, j, rfl, rfl, q⟩ := h
  obtain ⟨t, rfl⟩ := rx
  obtain ⟨t', rfl⟩ := ry
  exact rule i j t t' s _ _ ⟨.bl (g i j), H, I, rfl, q⟩

def CDiv (i j : Int) : Prop := 0 < j ∧ j < 1073741824
def CMul (i j : Int) : Prop := (-(2 ^ 64) < i ∧ i < 2 ^ 64) ∨ (-(2 ^ 64) < j ∧ j < 2 ^ 64)
theorem CMul.ok {i j : Int} (h : CMul i j) : IntMulOk i j := by
  rcases h with ⟨h1, h2⟩ | ⟨h1, h2⟩
  · exact .of_left (intBits_le_64 h1 h2)
  · exact .of_right (intBits_le_64 h1 h2)
theorem op_add : OpR X (binaryOp .Add) (rI0 fun i j => .int (i + j)) := opI0 fun _ _ _ _ _ _ _ q => add_int q
theorem op_mul : OpR X (binaryOp .Mult) (rI CMul fun i j => .int (i * j)) := opI fun _ _ _ _ _ _ _ hc q => mul_int q hc.ok
/-- // by a positive divisor -/
theorem op_fdiv : OpR X (binaryOp .FloorDiv) (rI CDiv fun i j => .int (i / j)) := opI fun i j _ _ _ _ _ hc q => by
  have h1 : (0 : Int) < j := hc.1
  have h2 : j < 1073741824 := hc.2
  exact floordiv_int (by omega) (by rw [Int.fdiv_eq_ediv_of_nonneg i (by omega)]; exact q) (.inl (PyProof.noPylong_small (by omega)))
/-- % by a positive divisor of any size -/
theorem op_mod : OpR X (binaryOp .Mod) (rI (fun _ j => 0 < j) fun i j => .int (i % j)) := opI fun i j _ _ _ _ _ hc q => by
  have h1 : (0 : Int) < j := hc
  exact mod_int' (by omega) (by rw [Int.fmod_eq_emod_of_nonneg i (by omega)]; exact q)
/-! ### bools among ints: n += (a < b) -/
end

/-! ### comparisons -/
/-- the scalars that == tells apart as data does -/
def scal : V → V → Bool
  | .non, .non => true | .non, .int _ => true | .int _, .non => true | .non, .bl _ => true | .bl _, .non => true | .non, .str _ => true | .str _, .non => true
  | .int _, .int _ => true | .bl _, .bl _ => true | .str _, .str _ => true | .byt _, .byt _ => true
  | .int _, .str _ => true | .str _, .int _ => true | .bl _, .str _ => true | .str _, .bl _ => true
  | _, _ => false
def rEq : R2 := fun x y H Q => scal x y = true ∧ Q (.bl (decide (x = y))) H
def rNe : R2 := fun x y H Q => scal x y = true ∧ Q (.bl (!decide (x = y))) H

theorem dec_int {i j : Int} : decide (V.int i = V.int j) = (i == j) := by
  rw [Bool.eq_iff_iff]
  simp
theorem dec_bl {i j : Bool} : decide (V.bl i = V.bl j) = (i == j) := by
  rw [Bool.eq_iff_iff]
  simp
theorem dec_str {i j : Str} : decide (V.str i = V.str j) = (i == j) := by
  rw [Bool.eq_iff_iff]
  simp
theorem dec_byt {i j : Array UInt8} : decide (V.byt i = V.byt j) = (i.toList == j.toList) := by
  rw [Bool.eq_iff_iff]
  cases i
  cases j
  simp

section
variable {X : Cx} {a b c : Expr} {ta tb tc : TE} {pos : Pos}
theorem fin_bl {pins : List (Addr × Obj)} {σ : St} {H : Hp} {s : Shared} {Q : VK} {k k' : Bool} (I : Inv X pins σ H s) (q : Q (.bl k) H) (e : k = k') : EP X pins σ Q (.bool k') s := by
  subst e
  exact ⟨.bl k, H, I, rfl, q⟩
theorem op_eq : OpR X (compareOp .Eq) rEq := by
  intro pins s σ H x y v u Q I rx ry h
  obtain ⟨hs, q⟩ := h
  cases x with
  | non =>
    cases rx
    cases y with
    | non => cases ry; exact PySem.EqNone.eq_none_none (fin_bl I q (by simp))
    | bl j => cases ry; exact PySem.EqNone.eq_none_bool (fin_bl I q (by simp))
    | int j => obtain ⟨t', rfl⟩ := ry; exact PySem.EqNone.eq_none_int (fin_bl I q (by simp))
    | str j => obtain ⟨t', rfl⟩ := ry; exact PySem.EqNone.eq_none_str (fin_bl I q (by simp))
    | _ => exact absurd (show false = true from hs) Bool.false_ne_true
  | bl i =>
    cases rx
    cases y with
    | non => cases ry; exact PySem.EqNone.eq_bool_none (fin_bl I q (by simp))
    | bl j => cases ry; exact eq_bool (fin_bl I q dec_bl)
    | str j => obtain ⟨t', rfl⟩ := ry; exact PySem.EqMixed.eq_bool_str (fin_bl I q (by simp))
    | _ => exact absurd (show false = true from hs) Bool.false_ne_true
  | int i =>
    obtain ⟨t, rfl⟩ := rx
    cases y with
    | non => cases ry; exact PySem.EqNone.eq_int_none (fin_bl I q (by simp))
    | int j => obtain ⟨t', rfl⟩ := ry; exact eq_int (fin_bl I q dec_int)
    | str j => obtain ⟨t', rfl⟩ := ry; exact PySem.EqMixed.eq_int_str (fin_bl I q (by simp))
    | _ => exact absurd (show false = true from hs) Bool.false_ne_true
  | str i =>
    obtain ⟨t, rfl⟩ := rx
    cases y with
    | non => cases ry; exact PySem.EqNone.eq_str_none (fin_bl I q (by simp))
    | bl j => cases ry; exact PySem.EqMixed.eq_str_bool (fin_bl I q (by simp))
    | int j => obtain ⟨t', rfl⟩ := ry; exact PySem.EqMixed.eq_str_int (fin_bl I q (by simp))
    | str j => obtain ⟨t', rfl⟩ := ry; exact eq_str (fin_bl I q dec_str)
    | _ => exact absurd (show false = true from hs) Bool.false_ne_true
  | byt i =>
    obtain ⟨t, rfl⟩ := rx
    cases y with
    | byt j => obtain ⟨t', rfl⟩ := ry; exact PySem.W.eq_bytes (fin_bl I q dec_byt)
    | _ => exact absurd (show false = true from hs) Bool.false_ne_true
  | _ => cases y <;> exact absurd (show false = true from hs) Bool.false_ne_true
theorem op_ne : OpR X (compareOp .NotEq) rNe := by
  intro pins s σ H x y v u Q I rx ry h
  obtain ⟨hs, q⟩ := h
  cases x with
  | non =>
    cases rx
    cases y with
    | non => cases ry; exact PySem.EqNone.ne_none_none (fin_bl I q (by simp))
    | bl j => cases ry; exact PySem.EqNone.ne_none_bool (fin_bl I q (by simp))
    | int j => obtain ⟨t', rfl⟩ := ry; exact PySem.EqNone.ne_none_int (fin_bl I q (by simp))
    | str j => obtain ⟨t', rfl⟩ := ry; exact PySem.EqNone.ne_none_str (fin_bl I q (by simp))
    | _ => exact absurd (show false = true from hs) Bool.false_ne_true
  | bl i =>
    cases rx
    cases y with
    | non => cases ry; exact PySem.EqNone.ne_bool_none (fin_bl I q (by simp))
    | bl j => cases ry; exact ne_bool (fin_bl I q (congrArg not dec_bl))
    | str j => obtain ⟨t', rfl⟩ := ry; exact PySem.EqMixed.ne_bool_str (fin_bl I q (by simp))
    | _ => exact absurd (show false = true from hs) Bool.false_ne_true
  | int i =>
    obtain ⟨t, rfl⟩ := rx
    cases y with
    | non => cases ry; exact PySem.EqNone.ne_int_none (fin_bl I q (by simp))
    | int j => obtain ⟨t', rfl⟩ := ry; exact ne_int (fin_bl I q (congrArg not dec_int))
    | str j => obtain ⟨t', rfl⟩ := ry; exact PySem.EqMixed.ne_int_str (fin_bl I q (by simp))
    | _ => exact absurd (show false = true from hs) Bool.false_ne_true
  | str i =>
    obtain ⟨t, rfl⟩ := rx
    cases y with
    | non => cases ry; exact PySem.EqNone.ne_str_none (fin_bl I q (by simp))
    | bl j => cases ry; exact PySem.EqMixed.ne_str_bool (fin_bl I q (by simp))
    | int j => obtain ⟨t', rfl⟩ := ry; exact PySem.EqMixed.ne_str_int (fin_bl I q (by simp))
    | str j => obtain ⟨t', rfl⟩ := ry; exact ne_str (fin_bl I q (congrArg not dec_str))
    | _ => exact absurd (show false = true from hs) Bool.false_ne_true
  | byt i =>
    obtain ⟨t, rfl⟩ := rx
    cases y with
    | byt j => obtain ⟨t', rfl⟩ := ry; exact PySem.W.ne_bytes (fin_bl I q (congrArg not dec_byt))
    | _ => exact absurd (show false = true from hs) Bool.false_ne_true
  | _ => cases y <;> exact absurd (show false = true from hs) Bool.false_ne_true

theorem op_lt : OpR X (compareOp .Lt) (rI0 fun i j => .bl (decide (i < j))) := opB0 fun _ _ _ _ _ _ _ q => lt_int q
theorem op_gt : OpR X (compareOp .Gt) (rI0 fun i j => .bl (decide (j < i))) := opB0 fun _ _ _ _ _ _ _ q => gt_int q
/-- the one string within the other -/
theorem op_in_str : OpR X (compareOp .In) (fun x y H Q => ∃ i j, x = .str i ∧ y = .str j ∧ Q (.bl (!(Builtin.Str.occurrences j i 0 j.length 1).isEmpty)) H) := by
  intro pins s σ H x y v u Q I rx ry h
  obtain ⟨i, j, rfl, rfl, q⟩ := h
  obtain ⟨t, rfl⟩ := rx
  obtain ⟨t', rfl⟩ := ry
  exact in_str (fin_bl I q rfl)

/-- is None, is not None: the right side a value none -/
theorem op_isN : OpR X (compareOp .Is) (fun x y H Q => y = .non ∧ Q (.bl (decide (x = .non))) H) := by
  intro pins s σ H x y v u Q I rx ry h
  obtain ⟨rfl, q⟩ := h
  cases ry
  refine is_none_gen (fin_bl I q ?_)
  cases x <;> first
    | (cases rx; rfl)
    | (obtain ⟨t, rfl⟩ := rx; rfl)
theorem op_notN : OpR X (compareOp .IsNot) (fun x y H Q => y = .non ∧ Q (.bl (!decide (x = .non))) H) := by
  intro pins s σ H x y v u Q I rx ry h
  obtain ⟨rfl, q⟩ := h
  cases ry
  refine isnot_none_gen (fin_bl I q ?_)
  cases x <;> first
    | (cases rx; rfl)
    | (obtain ⟨t, rfl⟩ := rx; rfl)

theorem nomark (b : Expr) {op : CmpOp} (h : op ≠ .In := by decide) (h2 : op ≠ .NotIn := by decide) : behindInMarks op b = false := by
  have e1 : (op == CmpOp.In) = false := by cases op <;> first | rfl | exact absurd rfl h
  have e2 : (op == CmpOp.NotIn) = false := by cases op <;> first | rfl | exact absurd rfl h2
  cases b <;> simp [behindInMarks, e1, e2]
/-- a comparison as a value; hm: nomark b, or (for in, not in) by with_unfolding_all rfl -/
theorem pe_cmpR {op : CmpOp} {r : R2} (ho : OpR X (compareOp op) r) (ha : PE X a ta) (hb : PE X b tb) (hm : behindInMarks op b = false) : PE X (.Compare a [op] [b] pos) (tOp r ta tb) := by
  intro pins s σ H Q I h
  exact wpAny_Compare1 (binT ha hb I h fun v u s2 x y H2 I2 rx ry q => ho pins s2 σ H2 x y v u Q I2 rx ry q) hm
/-- a reading of a value as a test -/
def tTest (t : TE) : TT := fun σ H Q => t σ H fun x H' => ∃ k, x = .bl k ∧ Q k H'
theorem pt_cmpR {op : CmpOp} {r : R2} (ho : OpR X (compareOp op) r) (ha : PE X a ta) (hb : PE X b tb) (hm : behindInMarks op b = false) : PT X (.Compare a [op] [b] pos) (tTest (tOp r ta tb)) := by
  intro pins s σ H Q I h
  refine wpAny_isTrue_Compare1 (thn (ha pins s σ H _ I h) fun v s1 ⟨x, H1, I1, r1, q1⟩ => thn (hb pins s1 σ H1 _ I1 q1) fun u s2 ⟨y, H2, I2, r2, q2⟩ =>
    thn (ho pins s2 σ H2 x y v u _ I2 r1 r2 q2) fun c s3 ⟨z, H3, I3, r3, k, e, q3⟩ => ?_) hm
  subst e
  cases r3
  exact wpAny_truthy_bool ⟨H3, I3, q3⟩
/-! ### truth -/
theorem line63 : (sizeLine : Nat) < 2 ^ 63 := by rw [sizeLine_eq]; decide
/-! ### strs and bytes -/
/-! ### scalar builtins, by CallR -/
theorem vals1 {x : V} {us : List Value} (r : Vals [x] us) : ∃ u, us = [u] ∧ RelV x u := by
  cases r with
  | cons r1 r2 => cases r2; exact ⟨_, rfl, r1⟩
end
end L2

namespace L2
open PySem PySem.Spec PyProof.Rows

/-! ### an instance, its attributes a map -/
structure ObjM (h : Heap) (x dx C : Addr) (mA : Str → Option Value) : Prop where
  obj : h.get? x = some (PySem.W.instObj C dx)
  ns : h.Ns1 dx mA
  ne : dx ≠ x

theorem lookIn_ns {h : Heap} {dx : Addr} {mA : Str → Option Value} (n : h.Ns1 dx mA) : ∃ od, h.get? dx = some od ∧ ∀ name, PySem.W.lookIn name od = some (mA name) := by
  obtain ⟨o, es, ep, ho, hd, hk, _, hm⟩ := n
  refine ⟨o, ho, fun name => ?_⟩
  have e := hm name
  unfold nsFind findBy at e
  rw [← Array.find?_toList] at e
  unfold PySem.W.lookIn
  rw [hd]
  dsimp only
  split
  · rename_i y q
    rw [q] at e
    exact congrArg some e
  · rename_i q
    rw [q] at e
    have a : es.toList.any (·.refKey) = false := by
      rw [List.any_eq_false]
      intro y hy
      obtain ⟨z, t, hkey⟩ := hk y (Array.mem_toList_iff.mp hy)
      simp [DictEntry.refKey, hkey]
    have a' : ¬ es.toList.any (·.refKey) = true := by rw [a]; exact Bool.false_ne_true
    rw [if_neg a']
    exact congrArg some e

theorem ObjM.look {h : Heap} {x dx C : Addr} {mA : Str → Option Value} (I : ObjM h x dx C mA) : ∃ od, PySem.W.InstAt h x (PySem.W.instObj C dx) C (some od) ∧ ∀ name, PySem.W.lookIn name od = some (mA name) :=
  let ⟨od, ho, hl⟩ := lookIn_ns I.ns
  ⟨od, ⟨I.obj, rfl, rfl, ho⟩, hl⟩

section
variable {prog : Program} {w : World} {A : Around} {E : Value → Shared → Prop} {s : Shared} {K : PySem.W.Frag} {x dx C f : Addr} {mA : Str → Option Value} {name : Str} {v : Value}

end

/-! ### the attributes as a list of pairs -/
section
variable {P : Program} {w : World} {H H' : Hp} {h h' : Heap} {a C dx : Addr} {fs fs' : List (Str × V)}
theorem ins_get (hok : HOk P w H h) (e : H a = some (.ins C dx fs)) : ∃ mA, ObjM h a dx C mA ∧ (∀ f, RelO (fs.lookup f) (mA f)) ∧ PySem.Within mA (fs.map (·.1)) ∧ fs.length ≤ 1000 ∧ H dx = some (.own a) := by
  obtain ⟨d, z, ne, ob, mA, n, r, q⟩ := (show ObjOk P w H h a (.ins C dx fs) from hok a _ e)
  exact ⟨mA, ⟨ob, n, ne⟩, r, q, z, d⟩
end

/-! ### what of the text a class must have -/
structure Cls (K : PySem.W.Frag) (C : Addr) : Prop where
  pg : PySem.W.plainGet K C Str.empty = true
  hd : PySem.W.hasDictIn K C = true
  po : PySem.W.plainOver K C = true
  sa : PySem.W.findIn K (.ref C) "__setattr__" = some (some (.builtin "object.__setattr__"))
theorem Cls.get {K : PySem.W.Frag} {C : Addr} (c : Cls K C) (f : Str) : PySem.W.plainGet K C f = true := c.pg
section
variable {X : Cx} {pins : List (Addr × Obj)} {σ : St} {H : Hp} {s : Shared} {a C dx : Addr} {fs : List (Str × V)} {f : Str} {v : V} {A : Around} {E : Value → Shared → Prop}

end

/-! ### readings and rules -/
section
variable {X : Cx} {o e value : Expr} {f : Str} {pos pos' tpos : Pos} {ta tv : TE}
end

/-! ### isinstance -/
section
variable {X : Cx} {pins : List (Addr × Obj)} {σ : St} {H : Hp} {s : Shared} {A : Around} {E : Value → Shared → Prop} {Q : Value → Shared → Prop} {c : Value} {b : Bool}
/-- the type of a value, as the fragment's deciders take it; for an instance its class -/
inductive TyOf (K : PySem.W.Frag) (H : Hp) : V → Value → Prop where
  | non : TyOf K H .non (.type "NoneType")
  | bl (x : Bool) : TyOf K H (.bl x) (.type "bool")
  | int (i : Int) : TyOf K H (.int i) (.type "int")
  | str (x : Str) : TyOf K H (.str x) (.type "str")
  | flt (x : UInt64) : TyOf K H (.flt x) (.type "float")
  | lst {a : Addr} {xs : List V} (e : H a = some (.lst xs)) : TyOf K H (.ref a) (.type "list")
  | frz {a : Addr} {o : Obj} {xs : List V} (e : H a = some (.frz o (.lst xs))) : TyOf K H (.ref a) (.type "list")
  | tup {a : Addr} {xs : List V} (e : H a = some (.tup xs)) : TyOf K H (.ref a) (.type "tuple")
  | dK {a : Addr} {kvs : List (Key × V)} (e : H a = some (.dK kvs)) : TyOf K H (.ref a) (.type "dict")
  | dT {a : Addr} {kvs : List (List Key × V)} (e : H a = some (.dT kvs)) : TyOf K H (.ref a) (.type "dict")
  | ins {a C dx : Addr} {fs : List (Str × V)} (e : H a = some (.ins C dx fs)) (cl : Cls K C) (ha : PySem.W.findIn K (.ref C) "__class__" = some (some (.builtin "object.__class__")))
      (hn : PySem.W.specialIn K (.builtin "object.__class__") "__get__" = some (some (.builtin "getset_descriptor.__get__"))) (htk : PySem.W.takesIn K (.builtin "object.__class__") = some true)
      (hm : PySem.W.mroIn K C (.type "object") = some true) : TyOf K H (.ref a) (.ref C)
/-- isinstance(x, c) for one class c, a built-in or an own one: kitOne's answer -/
theorem isinst_ok {x : V} {u t : Value} (I : Inv X pins σ H s) (rx : RelV x u) (ty : TyOf X.K H x t) (e : PySem.W.kitOne X.K t c = some b) (h : ∀ tk, Q (.bool b) { s with toks := tk }) :
    wpAny (model X.prog X.w) A (call (.builtin "isinstance") [u, c]) Q E s := by
  cases ty with
  | non => cases (show u = Value.none from rx); exact PySem.W.kia_one PySem.W.kitx_none I.kIn True.intro e (fun z => nomatch z) h
  | bl y => cases (show u = Value.bool y from rx); exact PySem.W.kia_one PySem.W.kitx_bool I.kIn True.intro e (fun z => nomatch z) h
  | int i => obtain ⟨t, q⟩ := (show ∃ t, u = Value.int i t from rx); cases q; exact PySem.W.kia_one PySem.W.kitx_int I.kIn True.intro e (fun z => nomatch z) h
  | str y => obtain ⟨t, q⟩ := (show ∃ t, u = Value.str y t from rx); cases q; exact PySem.W.kia_one PySem.W.kitx_str I.kIn True.intro e (fun z => nomatch z) h
  | flt y => obtain ⟨t, q⟩ := (show ∃ t, u = Value.float y t from rx); cases q; exact PySem.W.kia_one PySem.W.kitx_float I.kIn True.intro e (fun z => nomatch z) h
  | @lst a xs ea =>
    cases (show u = Value.ref a from rx)
    obtain ⟨_, _, n, _, h1⟩ := (show ObjOk X.prog X.w H s.heap a (.lst xs) from I.hok a _ ea)
    exact PySem.W.kia_one PySem.W.kitx_list I.kIn ⟨_, h1, rfl⟩ e (fun z => nomatch z) h
  | @frz a ob xs ea =>
    cases (show u = Value.ref a from rx)
    obtain ⟨_, _, _, n, _, h1⟩ := (show ObjOk X.prog X.w H s.heap a (.frz ob (.lst xs)) from I.hok a _ ea)
    exact PySem.W.kia_one PySem.W.kitx_list I.kIn ⟨_, h1, rfl⟩ e (fun z => nomatch z) h
  | @tup a xs ea =>
    cases (show u = Value.ref a from rx)
    obtain ⟨_, _, _, p⟩ := (show ObjOk X.prog X.w H s.heap a (.tup xs) from I.hok a _ ea)
    obtain ⟨o, h1, h2, _⟩ := p
    exact PySem.W.kia_one PySem.W.kitx_tuple I.kIn ⟨o, h1, h2⟩ e (fun z => nomatch z) h
  | @dK a kvs ea =>
    cases (show u = Value.ref a from rx)
    obtain ⟨_, _, vs, _, p⟩ := (show ObjOk X.prog X.w H s.heap a (.dK kvs) from I.hok a _ ea)
    obtain ⟨o, es, ep, h1, h2, _⟩ := p
    exact PySem.W.kia_one PySem.W.kitx_dict I.kIn ⟨o, h1, h2.1⟩ e (fun z => nomatch z) h
  | @dT a kvs ea =>
    cases (show u = Value.ref a from rx)
    obtain ⟨_, _, xs, _, o, es, ep, h1, h2, _⟩ := (show ObjOk X.prog X.w H s.heap a (.dT kvs) from I.hok a _ ea)
    exact PySem.W.kia_one PySem.W.kitx_dict I.kIn ⟨o, h1, h2.1⟩ e (fun z => nomatch z) h
  | @ins a C dx fs ea cl ha hn htk hm =>
    cases (show u = Value.ref a from rx)
    obtain ⟨mA, O, _⟩ := ins_get I.hok ea
    obtain ⟨od, J, _⟩ := O.look
    exact PySem.W.kia_one (PySem.W.kitx_own (cl.get _) cl.hd ha hn htk hm) I.kIn J e (fun z => nomatch z) h
end
end L2

namespace L2
open PySem PySem.Spec PyProof.Rows

/-! ### room -/
structure Room (k : Nat) (A : Around) : Prop where
  hd : A.handled = none
  dp : A.depth + 3 * k + 5 < recursionLimit
  un : A.units + 16 * k + 200 < cLine
theorem Room.mono {j k : Nat} {A : Around} (r : Room k A) (h : j ≤ k) : Room j A := ⟨r.hd, by have := r.dp; omega, by have := r.un; omega⟩
theorem Room.deeper {k : Nat} {A : Around} (r : Room (k + 1) A) (env : Env) : Room k (A.deeper env) :=
  ⟨r.hd, by have := r.dp; show A.depth + 1 + 3 * k + 5 < _; omega, by have := r.un; show A.units + 3 + 16 * k + 200 < _; omega⟩
theorem Room.depth {k : Nat} {A : Around} (r : Room k A) : A.depth < recursionLimit := by have := r.dp; omega
theorem Room.units0 {k : Nat} {A : Around} (r : Room k A) : A.units < cLine := by have := r.un; omega

/-! ### argument lists and displays -/
def tNil : TA := fun _ H Q => Q [] H
def tCons (ta : TE) (tr : TA) : TA := fun σ H Q => ta σ H fun x H1 => tr σ H1 fun xs H2 => Q (x :: xs) H2
section
variable {X : Cx} {e : Expr} {es : List Expr} {te : TE} {t : TA} {pos : Pos}
theorem pa_nil : PA X [] tNil := fun _ _ _ _ H Q I h => Calls.spliced_nil ⟨[], H, I, .nil, h⟩
theorem pa_cons (ha : PE X e te) (hr : PA X es t) (hs : starEach (e :: es) X.env = (false, eval e X.env) :: starEach es X.env := by rfl) : PA X (e :: es) (tCons te t) := by
  intro pos pins s σ H Q I h
  rw [hs]
  show wpAny _ _ (spliced ((false, eval e X.env) :: backTo pos (starEach es X.env))) _ _ s
  refine Calls.spliced_cons (thn (ha pins s σ H _ I h) fun u s1 ⟨x, H1, I1, r1, q1⟩ => ?_)
  exact thn (hr pos pins s1 σ H1 _ I1 q1) fun us s2 ⟨xs, H2, I2, r2, q2⟩ => ⟨x :: xs, H2, I2, .cons r1 r2, q2⟩

/-- a tuple, a list of written items -/
def tTup (t : TA) : TE := fun σ H Q => t σ H fun xs H1 => xs.length ≤ sizeLine ∧ ∀ p, H1 p = none → Q (.ref p) (upd H1 p (.tup xs))
def tLst (t : TA) : TE := fun σ H Q => t σ H fun xs H1 => xs.length ≤ sizeLine ∧ ∀ p, H1 p = none → Q (.ref p) (upd H1 p (.lst xs))
theorem pe_tup {x1} (h : PA X es t) : PE X (.Tuple es x1 pos) (tTup t) := by
  intro pins s σ H Q I hq
  refine wpAny_Tuple_spliced (thn (h pos pins s σ H _ I hq) fun us s1 ⟨xs, H1, I1, r, z, q⟩ => ⟨by rw [← r.length]; exact z, ?_⟩)
  have hf : H1 s1.heap.objs.size = none := I1.hok.fresh (Nat.le_refl _)
  refine ⟨.ref s1.heap.objs.size, upd H1 s1.heap.objs.size (.tup xs), I1.laid (t' := s1.toks) (fun b u e => Heap.get?_push_of_some _ e) (Nat.le_refl _) ?_, rfl, q _ hf⟩
  exact ⟨z, us, r, ⟨_, Heap.get?_push_size _ rfl, rfl, _, rfl⟩⟩
theorem pe_lst (h : PA X es t) : PE X (.List es pos) (tLst t) := by
  intro pins s σ H Q I hq
  refine wpAny_List_spliced (thn (h pos pins s σ H _ I hq) fun us s1 ⟨xs, H1, I1, r, z, q⟩ => ⟨by rw [← r.length]; exact z, ?_⟩)
  have hf : H1 s1.heap.objs.size = none := I1.hok.fresh (Nat.le_refl _)
  refine ⟨.ref s1.heap.objs.size, upd H1 s1.heap.objs.size (.lst xs), I1.laid (t' := s1.toks) (fun b u e => Heap.get?_push_of_some _ e) (Nat.le_refl _) ?_, rfl, q _ hf⟩
  exact ⟨z, us, 0, r, Heap.get?_push_size _ rfl⟩
end

/-! ### what a def promises -/
/-- a def's promise: the bound arguments in the parameters' order, the heap, the wanted end, the wanted exception -/
abbrev Sp := List V → Hp → VK → XK → Prop
/-- how an exception lies behind a call (file 08 gives it): the callers' frames, abstract heap and state ahead of the call, the wish, the exception, the state -/
abbrev CXT := List Env → Hp → Shared → XK → Value → Shared → Prop

/-- the state at a call -/
structure Env0 (P : Program) (w : World) (K : PySem.W.Frag) (mg : Str → Option Value) (base : Heap) (A : Around) (outer : List Env) (s : Shared) (H : Hp) : Prop where
  frames : A.frames = some outer
  mod : Mod K mg base
  bs : ∀ b o, base.get? b = some o → s.heap.get? b = some o ∧ H b = none
  bsz : base.objs.size ≤ s.heap.objs.size
  funs : s.heap.FunFrames base outer
  frf : ∀ b ∈ frs outer, H b = none
  hok : HOk P w H s.heap
  bare : AllBare s.gens
/-- a call's end -/
def CE (outer : List Env) (P : Program) (w : World) (H : Hp) (s : Shared) (Q : VK) (u : Value) (s' : Shared) : Prop :=
  ∃ v H', s'.os = s.os ∧ AllBare s'.gens ∧ Un (frs outer) [] H H' s.heap s'.heap ∧ HOk P w H' s'.heap ∧ RelV v u ∧ Q v H'
def CR (CX : CXT) (outer : List Env) (P : Program) (w : World) (H : Hp) (s : Shared) (Q : VK) (E : XK) (r : Result) (s' : Shared) : Prop :=
  match r with
  | .ok (.ret u) => CE outer P w H s Q u s'
  | .ok _ => False
  | .error e => CX outer H s E e s'
structure FnOk (P : Program) (w : World) (K : PySem.W.Frag) (mg : Str → Option Value) (base : Heap) (CX : CXT) (k : Nat) (f : Addr) (fd : FuncData) (ps : List Str) (sp : Sp) : Prop where
  len : ∀ vs H Q E, sp vs H Q E → vs.length = ps.length
  run : ∀ (A : Around) (outer : List Env) (s : Shared) (H : Hp) (args : Args) (us : List Value) (vs : List V) (Q : VK) (E : XK), Room k A → Env0 P w K mg base A outer s H → BindsTo s fd args (ps.zip us) → Vals vs us → sp vs H Q E →
    codeAny (model P w) A (.call (.ref f) args) (CR CX outer P w H s Q E) s
section
variable {X : Cx} {pins : List (Addr × Obj)} {σ : St} {H : Hp} {s s' : Shared}
/-- from a body: what a callee wants -/
theorem Inv.env0 (I : Inv X pins σ H s) : Env0 X.prog X.w X.K X.mg X.base X.A X.stack s H :=
  ⟨I.ok.frames, I.ok.mod, I.bs, Nat.le_trans I.ok.bsz I.sz, I.stack, I.stkFree, I.hok, I.bare⟩
/-- behind a call -/
theorem Inv.after {Q : VK} {u : Value} (I : Inv X pins σ H s) (h : CE X.stack X.prog X.w H s Q u s') : EP X pins σ Q u s' := by
  obtain ⟨v, H', os, bare, un, hok, r, q⟩ := h
  obtain ⟨hh, g, d, t, os'⟩ := s'
  obtain rfl : os' = s.os := os
  exact ⟨v, H', I.call (h' := hh) (g' := g) (d' := d) (t' := t) (ch := []) un hok bare (fun b z => absurd z (by simp)), r, q⟩
end

/-! ### calls -/
/-- f(..): the written arguments, then the defaults dvs; E: what is wanted of an exception -/
def tCall (sp : Sp) (dvs : List V) (E : XK) (t : TA) : TE := fun σ H Q => t σ H fun vs H1 => sp (vs ++ dvs) H1 Q E
/-- how the parameters are bound: us the positional arguments, kw the keywords' values by name, ds the defaults that fill up -/
def Binds (K : PySem.W.Frag) (fd : FuncData) (ps : List Str) (ds : List Value) : Prop :=
  ∀ (s : Shared) (us : List Value), K.In s.heap → (us ++ ds).length = ps.length → BindsTo s fd ⟨us, []⟩ (ps.zip (us ++ ds))
/-- every parameter is given -/
theorem Binds.all {K : PySem.W.Frag} {fd : FuncData} {ps : List Str} (h : ∀ us : List Value, us.length = ps.length → bindArgs fd ⟨us, []⟩ = pure (ps.zip us)) : Binds K fd ps [] := fun s us _ hl => by
  rw [List.append_nil] at hl ⊢
  exact .of_eq (h us hl)

/-- an exception of a callee reaches what this body wants of exceptions -/
def Passes (CX : CXT) (X : Cx) (E : XK) : Prop := ∀ (pins : List (Addr × Obj)) (σ : St) (H : Hp) (s : Shared) (e : Value) (s' : Shared), Inv X pins σ H s → CX X.stack H s E e s' → X.xe e s'

section
variable {X : Cx} {CX : CXT} {k : Nat} {f C : Addr} {fd : FuncData} {ps : List Str} {sp : Sp} {dvs : List V} {ds : List Value} {E : XK} {x m : Str} {p pos apos : Pos} {e o : Expr} {es : List Expr} {ta : TE} {t : TA}

/-- the callee runs -/
theorem run_fn {pins : List (Addr × Obj)} {σ : St} {H : Hp} {s : Shared} {Q : VK} {us : List Value} {vs : List V} (F : FnOk X.prog X.w X.K X.mg X.base CX k f fd ps sp) (hr : Room k X.A) (hb : Binds X.K fd ps ds) (hd : Vals dvs ds) (hx : Passes CX X E)
    (I : Inv X pins σ H s) (r : Vals vs us) (h : sp (vs ++ dvs) H Q E) : wpAny (model X.prog X.w) X.A (call (.ref f) us) (EP X pins σ Q) X.xe s := by
  have r2 : Vals (vs ++ dvs) (us ++ ds) := r.append hd
  have hl : (us ++ ds).length = ps.length := by rw [← r2.length]; exact F.len _ _ _ _ h
  refine wpAny_call (codeAny_mono (F.run X.A X.stack s H ⟨us, []⟩ (us ++ ds) (vs ++ dvs) Q E hr I.env0 (hb s us I.kIn hl) r2 h) fun r s' hq => ?_)
  cases r with
  | error e => exact hx pins σ H s e s' I hq
  | ok fl =>
    cases fl with
    | ret u => exact I.after hq
    | next => exact False.elim hq
    | brk => exact False.elim hq
    | cont => exact False.elim hq

theorem pe_call (F : FnOk X.prog X.w X.K X.mg X.base CX k f fd ps sp) (hr : Room k X.A) (hg : Gl X x) (hm : X.mg x = some (.ref f)) (hk : PySem.W.keepIn X.K (.ref f) = true) (hb : Binds X.K fd ps ds) (hd : Vals dvs ds) (hx : Passes CX X E)
    (ha : PA X (e :: es) t) (hdb : (x == ("__debug__" : Str)) = false := by decide) (he : starEach (e :: es) X.env = (false, eval e X.env) :: starEach es X.env := by rfl) (hpl : (backTo pos (starEach es X.env)).any (·.1) = false := by rfl) :
    PE X (.Call (.Name x p) (e :: es) [] pos) (tCall sp dvs E t) := by
  intro pins s σ H Q I h
  refine wpAny_Call_Name_kw (ld_glob I hg hm ?_ hdb)
  refine PySem.W.callWith_K (h₀ := X.base) I.ok.mod.kin hk (thn (ha pos pins s σ H _ I h) fun us s1 ⟨vs, H1, I1, r, q⟩ => ⟨I1.kIn, ?_⟩) he hpl
  exact run_fn F hr hb hd hx I1 r q
end

/-! ### keywords -/
section
variable {X : Cx} {CX : CXT} {k : Nat} {f C : Addr} {fd : FuncData} {ps ks : List Str} {sp : Sp} {E : XK} {x m : Str} {p pos apos kpos : Pos} {e o : Expr} {es : List Expr} {kws : List Keyword} {te ta : TE} {t tk : TA} {nm : Option Str}
variable {g : List Value → List Value → List Value} {gV : List V → List V → List V}
end

/-! ### a def's body keeps its promise -/
/-- names: the parameters first -/
structure FnScope (N P : List Str) (sc : Scope) : Prop where
  kind : sc.kind = .function
  co : sc.isCoroutine = false
  gen : sc.isGenerator = false
  nd : N.Nodup
  pre : N.take P.length = P
  par : ∀ x ∈ P, sc.names.lookup x = some .local ∨ sc.names.lookup x = some .cell
  nofree : ∀ y ∈ sc.names, y.2 ≠ .free

theorem bindL_out {kindOf : Str → Option NameKind} {x : Str} : ∀ {binds : List (Str × Value)} {m : Str → Option Value}, (∀ v, (x, v) ∉ binds) → bindL kindOf binds m x = m x
  | [], _, _ => rfl
  | (n, v) :: r, m, h => by
    unfold bindL
    rw [bindL_out fun w hw => h w (List.mem_cons_of_mem _ hw)]
    split
    · have : x ≠ n := by rintro rfl; exact h v List.mem_cons_self
      simp [this]
    · rfl
theorem bindC_out {kindOf : Str → Option NameKind} {x : Str} : ∀ {binds : List (Str × Value)} {m : Str → Option Value}, (∀ v, (x, v) ∉ binds) → bindC kindOf binds m x = m x
  | [], _, _ => rfl
  | (n, v) :: r, m, h => by
    unfold bindC
    rw [bindC_out fun w hw => h w (List.mem_cons_of_mem _ hw)]
    split
    · rfl
    · have : x ≠ n := by rintro rfl; exact h v List.mem_cons_self
      simp [this]
theorem bindL_get {kindOf : Str → Option NameKind} {x : Str} {v : Value} : ∀ {P : List Str} {vs : List Value} {i : Nat} {m : Str → Option Value}, P.Nodup → P[i]? = some x → vs[i]? = some v → kindOf x = some .local →
    bindL kindOf (P.zip vs) m x = some v
  | [], _, _, _, _, h, _, _ => by simp at h
  | _ :: _, [], _, _, _, _, h, _ => by simp at h
  | p :: P, w :: vs, 0, m, nd, h1, h2, hk => by
    simp at h1 h2; subst h1; subst h2
    show bindL kindOf ((p, w) :: P.zip vs) m p = _
    unfold bindL
    rw [bindL_out fun v hv => (List.nodup_cons.mp nd).1 (List.of_mem_zip hv).1, if_pos hk]
    simp
  | p :: P, w :: vs, i + 1, m, nd, h1, h2, hk => by
    show bindL kindOf ((p, w) :: P.zip vs) m x = _
    unfold bindL
    exact bindL_get (i := i) (List.nodup_cons.mp nd).2 (by simpa using h1) (by simpa using h2) hk
theorem bindC_get {kindOf : Str → Option NameKind} {x : Str} {v : Value} : ∀ {P : List Str} {vs : List Value} {i : Nat} {m : Str → Option Value}, P.Nodup → P[i]? = some x → vs[i]? = some v → kindOf x ≠ some .local →
    bindC kindOf (P.zip vs) m x = some v
  | [], _, _, _, _, h, _, _ => by simp at h
  | _ :: _, [], _, _, _, _, h, _ => by simp at h
  | p :: P, w :: vs, 0, m, nd, h1, h2, hk => by
    simp at h1 h2; subst h1; subst h2
    show bindC kindOf ((p, w) :: P.zip vs) m p = _
    unfold bindC
    rw [bindC_out fun v hv => (List.nodup_cons.mp nd).1 (List.of_mem_zip hv).1, if_neg hk]
    simp
  | p :: P, w :: vs, i + 1, m, nd, h1, h2, hk => by
    show bindC kindOf ((p, w) :: P.zip vs) m x = _
    unfold bindC
    exact bindC_get (i := i) (List.nodup_cons.mp nd).2 (by simpa using h1) (by simpa using h2) hk

/-- the names' values at the entry -/
def start (N : List Str) (vs : List V) : St := vs.map some ++ List.replicate (N.length - vs.length) none

/-- the context of a def's body, at its entry; an exception leaves the frame, then lies as CX says -/
def cxOf (CX : CXT) (P : Program) (w : World) (K : PySem.W.Frag) (mg : Str → Option Value) (base : Heap) (N : List Str) (qual : Str) (scope : Scope) (f : Addr) (cd : Value) (A : Around) (outer : List Env) (s : Shared) (H : Hp) (E : XK) : Cx where
  prog := P
  w := w
  K := K
  mg := mg
  base := base
  A := A.deeper (envOfC qual scope s.heap.objs.size f cd)
  N := N
  s₀ := s
  H₀ := H
  env := envOfC qual scope s.heap.objs.size f cd
  outer := outer
  stack := envOfC qual scope s.heap.objs.size f cd :: outer
  ex := []
  calm := true
  fn := fun _ => true
  pn := []
  xe := fun e s' => wpAny (model P w) (A.deeper (envOfC qual scope s.heap.objs.size f cd)) (leaving (envOfC qual scope s.heap.objs.size f cd) e) (fun _ s'' => CX outer H s E e s'') (fun e' s'' => CX outer H s E e' s'') s'

theorem cell_has {sc : Scope} {n : Nat} {x : Str} (h : sc.names.lookup x = some .cell) : ∃ c, (cellsFrom n sc.names []).lookup x = some c := by
  have q := PySem.W.cellsFrom_some sc.names n [] (.inl h)
  exact Option.isSome_iff_exists.mp q

theorem inv_start {CX : CXT} {P : Program} {w : World} {K : PySem.W.Frag} {mg : Str → Option Value} {base : Heap} {N ps : List Str} {qual : Str} {scope : Scope} {f : Addr} {cd : Value} {A : Around} {outer : List Env} {s s1 : Shared} {H : Hp} {E : XK} {us : List Value} {vs : List V}
    (S : FnScope N ps scope) (hd : A.handled = none) (e0 : Env0 P w K mg base A outer s H) (hl : vs.length = ps.length) (r : Vals vs us)
    (x : InCallC s s.heap.objs.size (bindL (envOfC qual scope s.heap.objs.size f cd).kindOf (ps.zip us) fun _ => none) (cellsFrom (s.heap.objs.size + 1) scope.names []) (bindC (envOfC qual scope s.heap.objs.size f cd).kindOf (ps.zip us) fun _ => none) s1) :
    Inv (cxOf CX P w K mg base N qual scope f cd A outer s H E) [] (start N vs) H s1 := by
  have hpl : ps.length ≤ N.length := by have := congrArg List.length S.pre; rw [List.length_take] at this; omega
  obtain ⟨h1, tk, rfl, hk⟩ := x.done
  have noA : ∀ b : Addr, b ∉ (cxOf CX P w K mg base N qual scope f cd A outer s H E).ex := fun b z => absurd (show b ∈ ([] : List Addr) from z) (by simp)
  refine ⟨⟨e0.mod, S.kind, rfl, rfl, Nat.le_refl _, fun y z c h1 h2 => ?_, fun y hy => ?_, fun y c _ h => ?_, fun _ => hd, Around.frames_deeper e0.frames, .inr ⟨rfl, rfl⟩, fun b z => absurd z (noA b), e0.bs, e0.bsz, fun b _ _ => noA b, fun b z => absurd z (noA b), e0.funs, e0.frf⟩,
    rfl, e0.bare, Un.kept hk, ⟨_, x.toInCall.ns, fun i y v h1 h2 h3 => ?_⟩, fun y c h => ⟨_, x.cell y c h⟩, e0.hok.fresh (Nat.le_refl _), fun y c h => ?_, fun p hp => absurd (show p ∈ ([] : List (Addr × Obj)) from hp) (by simp), e0.hok.kept hk, ?_⟩
  · exact name_of_addr x.apart (PySem.mem_of_lookup h1) (PySem.mem_of_lookup h2)
  · have hy : scope.names.lookup y = some .cell ∨ scope.names.lookup y = some .free := hy
    rcases hy with hy | hy
    · exact cell_has hy
    · exact absurd rfl (S.nofree _ (PySem.mem_of_lookup hy))
  · exact Nat.le_of_lt (x.above y c (PySem.mem_of_lookup h))
  · have hi : i < vs.length := by
      unfold start at h2
      by_cases hi : i < vs.length
      · exact hi
      · rw [List.getElem?_append_right (by simpa using hi)] at h2
        rw [List.getElem?_replicate] at h2
        split at h2 <;> cases h2
    have ha : vs[i]? = some v := by
      unfold start at h2
      rw [List.getElem?_append_left (by simpa using hi), List.getElem?_map] at h2
      cases e : vs[i]? with
      | none => rw [e] at h2; cases h2
      | some a => rw [e] at h2; cases h2; rfl
    obtain ⟨u, hu, rv⟩ := r.get ha
    have hp : ps[i]? = some y := by
      rw [← S.pre, List.getElem?_take_of_lt (by omega)]; exact h1
    have ndP : ps.Nodup := by rw [← S.pre]; exact S.nd.sublist (List.take_sublist _ _)
    refine ⟨u, rv, ?_⟩
    rcases S.par y (List.mem_of_getElem? hp) with k | k
    · exact .inl ⟨k, bindL_get ndP hp hu k⟩
    · obtain ⟨c, e⟩ := cell_has (n := s.heap.objs.size + 1) k
      refine .inr ⟨.inl k, c, e, ?_⟩
      have q := x.cell y c e
      rw [bindC_get ndP hp hu (by show scope.names.lookup y ≠ _; rw [k]; decide)] at q
      exact q
  · exact e0.hok.fresh (Nat.le_of_lt (x.above y c (PySem.mem_of_lookup h)))
  · unfold start
    show _ = N.length
    rw [List.length_append, List.length_map, List.length_replicate]
    omega

/-- THE RULE: a def (or a method) of the text, by its body. The body's reading t is chosen for each entry; it is run at the parameters' values -/
theorem fn_of {CX : CXT} {P : Program} {w : World} {K : PySem.W.Frag} {mg : Str → Option Value} {base : Heap} {k : Nat} {f : Addr} {name qual : Str} {params : Arguments} {body : List Stmt} {scope : Scope} {dV kV doc pm cdv ct oc : Value} {an od : Option Addr}
    {osl : Array (Option Value)} {N ps : List Str} {sp : Sp} (lk : K.lookup f = some ⟨oc, od, .func (PySem.W.fnOf name qual params body scope dV kV doc pm an cdv ct), osl⟩) (hcd : PySem.W.codeIn K cdv qual = true) (S : FnScope N ps scope)
    (len : ∀ vs H Q E, sp vs H Q E → vs.length = ps.length)
    (hbody : ∀ (A : Around) (outer : List Env) (s : Shared) (H : Hp) (vs : List V) (Q : VK) (E : XK), Room k (A.deeper (envOfC qual scope s.heap.objs.size f cdv)) → sp vs H Q E →
      ∃ t, PSs (cxOf CX P w K mg base N qual scope f cdv A outer s H E) body t ∧ t { nx := fun _ H' => Q .non H', rt := Q } (start N vs) H) :
    FnOk P w K mg base CX (k + 1) f (PySem.W.fnOf name qual params body scope dV kV doc pm an cdv ct) ps sp := by
  refine ⟨len, fun A outer s H args us vs Q E hr e0 hb r hsp => ?_⟩
  have hl := len _ _ _ _ hsp
  have KX : K.In s.heap := e0.mod.kin.keeps fun b o e => (e0.bs b o e).1
  have lim : s.heap.NoLimit := e0.mod.nolimit.keeps fun b o e => (e0.bs b o e).1
  have hkind : ∀ y ∈ ps.zip us, scope.names.lookup y.1 = some .local ∨ (scope.names.lookup y.1 = some .cell ∧ ((cellsFrom (s.heap.objs.size + 1) scope.names []).lookup y.1).isSome = true) := fun ⟨n, v⟩ hy => by
    rcases S.par n (List.of_mem_zip hy).1 with q | q
    · exact .inl q
    · exact .inr ⟨q, PySem.W.cellsFrom_some _ _ _ (.inl q)⟩
  refine codeAny_call_function hr.depth (KX _ _ lk) rfl S.co S.gen rfl (PySem.W.codeRec_of KX hcd) (hb _ _ _ _ ?_)
  refine wpAny_newFunctionEnv_cells S.kind hkind fun env he s1 x => ?_
  subst he
  refine ⟨lim.keeps x.toInCall.keep, codeAny_func ?_⟩
  obtain ⟨t, ht, hq⟩ := hbody A outer s H vs Q E (hr.deeper _) hsp
  have I : Inv (cxOf CX P w K mg base N qual scope f cdv A outer s H E) [] (start N vs) H s1 := inv_start S hr.hd e0 hl r x
  refine wpAny_mono (ht [] s1 (start N vs) H _ I hq) (fun fl s' hs => ?_) fun e s' hs => hs
  have fin : ∀ {σ' : St} {H' : Hp} {v : V} {u : Value}, Inv (cxOf CX P w K mg base N qual scope f cdv A outer s H E) [] σ' H' s' → RelV v u → Q v H' → CE outer P w H s Q u s' :=
    fun {σ' H' v u} J rv q => ⟨v, H', J.os, J.bare, J.base, J.hok, rv, q⟩
  cases fl with
  | ret u =>
    obtain ⟨v, σ', H', J, rv, q⟩ := hs
    exact fin J rv q
  | next =>
    obtain ⟨σ', H', J, q⟩ := hs
    exact fin (v := V.non) (u := Value.none) J rfl q
  | brk =>
    obtain ⟨_, _, _, q⟩ := hs
    exact False.elim q
  | cont =>
    obtain ⟨_, _, _, q⟩ := hs
    exact False.elim q
end L2

namespace L2
open PySem PySem.Spec PyProof.Rows
section
variable {X : Cx} {x : Str} {p pos : Pos} {e : Expr} {es : List Expr} {t : TA} {id T : String} {r : List V → Hp → VK → Prop}

def tCB (r : List V → Hp → VK → Prop) (t : TA) : TE := fun σ H Q => t σ H fun vs H1 => r vs H1 Q
/-- f(e, ..), f a built-in function -/
theorem pe_callB (hc : CallR X (.builtin id) r) (hg : Gl X x) (hm : X.mg x = none) (hv : bootBuiltins x = some (.builtin id)) (ha : PA X (e :: es) t) (hn : x ≠ "__name__" := by decide) (hdb : (x == ("__debug__" : Str)) = false := by decide)
    (he : starEach (e :: es) X.env = (false, eval e X.env) :: starEach es X.env := by rfl) (hpl : (backTo pos (starEach es X.env)).any (·.1) = false := by rfl) : PE X (.Call (.Name x p) (e :: es) [] pos) (tCB r t) := by
  intro pins s σ H Q I h
  refine wpAny_Call_Name_kw (ld_blt I hg hm hv ?_ hn hdb)
  exact PyProof.Rows.callWith_builtin1 (thn (ha pos pins s σ H _ I h) fun us s1 ⟨vs, H1, I1, r1, q1⟩ => hc pins s1 σ H1 vs us Q I1 r1 q1) he hpl
/-- T(e, ..), T a built-in type -/
theorem pe_callTy (hc : CallR X (.type T) r) (hg : Gl X x) (hm : X.mg x = none) (hv : bootBuiltins x = some (.type T)) (ha : PA X (e :: es) t) (hn : x ≠ "__name__" := by decide) (hdb : (x == ("__debug__" : Str)) = false := by decide)
    (he : starEach (e :: es) X.env = (false, eval e X.env) :: starEach es X.env := by rfl) (hpl : (backTo pos (starEach es X.env)).any (·.1) = false := by rfl) : PE X (.Call (.Name x p) (e :: es) [] pos) (tCB r t) := by
  intro pins s σ H Q I h
  refine wpAny_Call_Name_kw (ld_blt I hg hm hv ?_ hn hdb)
  exact PyProof.Rows.callWith_type1 (thn (ha pos pins s σ H _ I h) fun us s1 ⟨vs, H1, I1, r1, q1⟩ => hc pins s1 σ H1 vs us Q I1 r1 q1) he hpl
end
end L2

namespace HT
open PySem PyProof.Rows

section
open PySem.SeqAt
open PySem.AutoSeq1 (wpAny_loadPart')
open PySem.MeetsSeq PySem.MeetsSeq2 PySem.MeetsSeq3

end

section
variable {prog : Program} {w : World} {A : Around} {E : Value → Shared → Prop} {s : Shared}

/-! ### t[a:b], not the whole -/
/-- a slice's bound as a place among n (d where it is left out) -/
def sIx (n d : Nat) : Option Int → Nat
  | none => d
  | some v => if v < 0 then (v + (n : Int)).toNat else min v.toNat n
theorem sIx_none (n d : Nat) : sIx n d none = d := rfl
theorem sIx_nat (n d k : Nat) : sIx n d (some (k : Int)) = min k n := by
  show (if (k : Int) < 0 then ((k : Int) + (n : Int)).toNat else min (k : Int).toNat n) = min k n
  rw [if_neg (by omega), Int.toNat_natCast]
end
end HT

namespace L2
open PySem PySem.Spec PyProof.Rows

/-! ### the parts of a slice -/
abbrev TO := St → Hp → (Option Int → Hp → Prop) → Prop
/-- a slice's part (left out, or an int) -/
def PO (X : Cx) (e : Option Expr) (t : TO) : Prop :=
  ∀ (pins : List (Addr × Obj)) (s : Shared) (σ : St) (H : Hp) (Q : Option Int → Hp → Prop), Inv X pins σ H s → t σ H Q →
    wpAny (model X.prog X.w) X.A (evalPart e X.env) (fun u s' => ∃ o H', Inv X pins σ H' s' ∧ IsPart u o ∧ Q o H') X.xe s
def tNoPart : TO := fun _ H Q => Q none H
def tPart (t : TE) : TO := fun σ H Q => t σ H fun x H1 => ∃ i, x = .int i ∧ Q (some i) H1

section
variable {X : Cx} {e : Expr} {te : TE} {lo hi : Option Expr} {tl th : TO} {pos p2 : Pos}

theorem po_none : PO X none tNoPart := by
  intro pins s σ H Q I h
  rw [evalPart_none]
  exact wpAny_pure ⟨none, H, I, .none, h⟩
theorem po_some (h : PE X e te) : PO X (some e) (tPart te) := by
  intro pins s σ H Q I hw
  rw [evalPart_some]
  refine thn (h pins s σ H _ I hw) fun u s1 ⟨x, H1, I1, r1, q1⟩ => ?_
  obtain ⟨i, rfl, q⟩ := q1
  obtain ⟨t, rfl⟩ := r1
  exact ⟨some i, H1, I1, .int i t, q⟩

/-- what a slice of a value is, by values: the slice object stands at sl -/
def SlR (X : Cx) (r : V → Option Int → Option Int → Hp → VK → Prop) : Prop :=
  ∀ (pins : List (Addr × Obj)) (s : Shared) (σ : St) (H : Hp) (x : V) (v vl vu : Value) (lo hi : Option Int) (sl : Addr) (Q : VK), Inv X pins σ H s → RelV x v → s.heap.IsSliceOf sl vl vu .none → IsPart vl lo → IsPart vu hi → r x lo hi H Q →
    ∃ T id, typeLookup (.type T) "__getitem__" = pure (some (.builtin id)) ∧ s.TypeIs v T ∧ wpAny (model X.prog X.w) X.A (getItem v (.ref sl)) (EP X pins σ Q) X.xe s
def tSl (r : V → Option Int → Option Int → Hp → VK → Prop) (te : TE) (tl th : TO) : TE := fun σ H Q => te σ H fun x H1 => tl σ H1 fun l H2 => th σ H2 fun u H3 => r x l u H3 Q
/-- a[lo:hi], any a -/
theorem pe_slice {r : V → Option Int → Option Int → Hp → VK → Prop} (hr : SlR X r) (he : PE X e te) (hl : PO X lo tl) (hu : PO X hi th) : PE X (.Subscript e (.Slice lo hi none p2) pos) (tSl r te tl th) := by
  intro pins s σ H Q I h
  refine Subscript_ (thn (he pins s σ H _ I h) fun v s1 ⟨x, H1, I1, r1, q1⟩ => ?_)
  refine wpAny_Slice (thn (hl pins s1 σ H1 _ I1 q1) fun vl s2 ⟨l, H2, I2, pl, q2⟩ => thn (hu pins s2 σ H2 _ I2 q2) fun vu s3 ⟨u, H3, I3, pu, q3⟩ => ?_)
  rw [evalPart_none]
  refine wpAny_pure ?_
  have I4 : Inv X pins σ H3 { s3 with heap := s3.heap.push { cls := .type "slice", data := .fields #[vl, vu, .none] } } := I3.kept (t' := s3.toks) fun b ob q => Heap.get?_push_of_some _ q
  obtain ⟨T, id, hT, ht, hg⟩ := hr pins { s3 with heap := s3.heap.push { cls := .type "slice", data := .fields #[vl, vu, .none] } } σ H3 x v vl vu l u s3.heap.objs.size Q I4 r1 (Heap.IsSliceOf.new ..) pl pu q3
  show wpAny (model X.prog X.w) X.A (subscriptTail e (.Slice lo hi none p2) v (.ref s3.heap.objs.size)) (EP X pins σ Q) X.xe { s3 with heap := s3.heap.push { cls := .type "slice", data := .fields #[vl, vu, .none] } }
  exact tail_any (ops := [.ref s3.heap.objs.size, v]) ht hT hg (by with_unfolding_all rfl)

/-- the items of xs[lo:hi] -/
def cutV (xs : List V) (lo hi : Option Int) : List V := (xs.drop (HT.sIx xs.length 0 lo)).take (HT.sIx xs.length xs.length hi - HT.sIx xs.length 0 lo)
theorem cutV_length (xs : List V) (lo hi : Option Int) : (cutV xs lo hi).length ≤ xs.length := by
  unfold cutV
  rw [List.length_take, List.length_drop]
  omega
/-! ### t < u, t + u -/
end
end L2

namespace L2
open PySem PySem.Spec PyProof.Rows

/-! ### places -/
/-- the place that an index of any sign means -/
def ixN (n : Nat) (i : Int) : Option Nat := if 0 ≤ i then (if i < n then some i.toNat else none) else if -(n : Int) ≤ i then some (i + n).toNat else none
def atI {α : Type} (xs : List α) (i : Int) : Option α := (ixN xs.length i).bind fun j => xs[j]?
theorem ixN_seq {n : Nat} {i : Int} {j : Nat} (h : ixN n i = some j) : seqIndex? i n = some j ∧ j < n ∧ -(n : Int) ≤ i ∧ i < n := by
  unfold ixN at h
  by_cases h0 : 0 ≤ i
  · rw [if_pos h0] at h
    by_cases h1 : i < n
    · rw [if_pos h1] at h
      have e : i.toNat = j := Option.some.inj h
      exact ⟨by rw [seqIndex_of h0 h1, e], by omega, by omega, h1⟩
    · rw [if_neg h1] at h; cases h
  · rw [if_neg h0] at h
    by_cases h1 : -(n : Int) ≤ i
    · rw [if_pos h1] at h
      have e : (i + n).toNat = j := Option.some.inj h
      exact ⟨by rw [seqIndex_neg (by omega) h1, e], by omega, h1, by omega⟩
    · rw [if_neg h1] at h; cases h
theorem atI_get {α : Type} {xs : List α} {i : Int} {v : α} (h : atI xs i = some v) : ∃ j, seqIndex? i xs.length = some j ∧ xs[j]? = some v ∧ j < xs.length ∧ -(xs.length : Int) ≤ i ∧ i < xs.length := by
  unfold atI at h
  cases e : ixN xs.length i with
  | none => rw [e] at h; cases h
  | some j =>
    rw [e] at h
    obtain ⟨h1, h2, h3, h4⟩ := ixN_seq e
    exact ⟨j, h1, h, h2, h3, h4⟩
theorem atI_nat {α : Type} {xs : List α} {j : Nat} {v : α} (h : xs[j]? = some v) : atI xs (j : Int) = some v := by
  have hj : j < xs.length := (List.getElem?_eq_some_iff.mp h).1
  have e : ixN xs.length (j : Int) = some j := by
    unfold ixN
    rw [if_pos (by omega), if_pos (by omega)]; simp
  unfold atI; rw [e]; exact h
/-! ### what may be subscripted -/
/-- what stands as an index of a plain subscript -/
def PlainIx (b : Expr) : Prop := ∀ o i, subscripted b false o i = operate [o, i] (getItem o i)
/-- a subscript by values -/
def IxR (X : Cx) (r : R2) : Prop :=
  ∀ (value slice : Expr) (pins : List (Addr × Obj)) (s : Shared) (σ : St) (H : Hp) (x y : V) (v u : Value) (Q : VK), Inv X pins σ H s → RelV x v → RelV y u → r x y H Q →
    subscripted slice false v u = operate [v, u] (getItem v u) → wpAny (model X.prog X.w) X.A (subscriptTail value slice v u) (EP X pins σ Q) X.xe s
/-- a call of a builtin's method by values: the receiver, the arguments -/
def MtR (X : Cx) (id : String) (r : V → List V → Hp → VK → Prop) : Prop :=
  ∀ (pins : List (Addr × Obj)) (s : Shared) (σ : St) (H : Hp) (x : V) (xs : List V) (v : Value) (us : List Value) (Q : VK), Inv X pins σ H s → RelV x v → Vals xs us → r x xs H Q →
    wpAny (model X.prog X.w) X.A (call (.builtin id) (v :: us)) (EP X pins σ Q) X.xe s
section
variable {X : Cx} {a b : Expr} {ta tb : TE} {pos : Pos}
/-- a[b] -/
theorem pe_ix {r : R2} (hr : IxR X r) (ha : PE X a ta) (hb : PE X b tb) (hs : PlainIx b) : PE X (.Subscript a b pos) (tOp r ta tb) := by
  intro pins s σ H Q I h
  exact Subscript_ (binT ha hb I h fun v u s2 x y H2 I2 rx ry q => hr a b pins s2 σ H2 x y v u Q I2 rx ry q (hs _ _))

def rIxL (K : PySem.W.Frag) : R2 := fun x y H Q => ∃ p xs i v, x = .ref p ∧ y = .int i ∧ SqL K H p xs ∧ atI xs i = some v ∧ Q v H
def rIxT (K : PySem.W.Frag) : R2 := fun x y H Q => ∃ p xs i v, x = .ref p ∧ y = .int i ∧ SqT K H p xs ∧ atI xs i = some v ∧ Q v H
theorem ix_list : IxR X (rIxL X.K) := by
  intro value slice pins s σ H x y v u Q I rx ry h hs
  obtain ⟨p, xs, i, z, rfl, rfl, hq, he, q⟩ := h
  cases rx
  obtain ⟨t, rfl⟩ := ry
  obtain ⟨its, r, pl, hz⟩ := I.list hq
  obtain ⟨j, h1, h2, h3, h4, h5⟩ := atI_get he
  obtain ⟨w, ew, rw'⟩ := r.get h2
  have hl := r.length
  have hn := line63
  have fin : EP X pins σ Q w s := ⟨z, H, I, rw', q⟩
  by_cases h0 : 0 ≤ i
  · have hj : i.toNat = j := by
      rw [seqIndex_of h0 h5] at h1
      exact Option.some.inj h1
    exact item_listR pl.isList h0 (by omega) (by rw [hj]; simpa using ew) fin hs
  · have hj : (i + (its.toArray.size : Int)).toNat = j := by
      rw [seqIndex_neg (by omega) h4] at h1
      rw [List.size_toArray, ← hl]
      exact Option.some.inj h1
    exact subscriptTail_builtinR (x := w) pl.isList.typeIs slot_list_getitem.lookup
      (wpAny_getItem_list_neg (Q := fun r s' => r = w ∧ EP X pins σ Q r s') pl.isList (by omega) (by rw [List.size_toArray] <;> omega) (by omega) (by rw [hj]; simpa using ew) ⟨rfl, fin⟩) hs
theorem ix_tup : IxR X (rIxT X.K) := by
  intro value slice pins s σ H x y v u Q I rx ry h hs
  obtain ⟨p, xs, i, z, rfl, rfl, hq, he, q⟩ := h
  cases rx
  obtain ⟨t, rfl⟩ := ry
  obtain ⟨its, r, pl, hz⟩ := I.tuple hq
  obtain ⟨j, h1, h2, h3, h4, h5⟩ := atI_get he
  obtain ⟨w, ew, rw'⟩ := r.get h2
  have hl := r.length
  have hn := line63
  have fin : EP X pins σ Q w s := ⟨z, H, I, rw', q⟩
  exact subscriptTail_builtinR (x := w) pl.typeIs slot_tuple_getitem.lookup
    (getItem_tuple (j := j) (Q := fun r s' => r = w ∧ EP X pins σ Q r s') pl (by omega) (by omega) (by rw [List.size_toArray, ← hl]; exact h1) (by simpa using ew) ⟨rfl, fin⟩) hs
/-! ### xs[i] = v, any sign -/
/-! ### slices -/
theorem slice_bounds (lo hi : Option Int) (n : Nat) : (sliceBounds lo hi none n).1 = ((HT.sIx n 0 lo : Nat) : Int) ∧ (sliceBounds lo hi none n).2.1 = ((HT.sIx n n hi : Nat) : Int) ∧ (sliceBounds lo hi none n).2.2 = 1 := by
  refine ⟨?_, ?_, rfl⟩
  · cases lo with
    | none => simp [sliceBounds, HT.sIx]
    | some i =>
      simp only [sliceBounds, HT.sIx, Option.getD_none, show (1 : Int) > 0 by decide, if_true]
      by_cases h : i < 0
      · simp only [h, if_true] <;> omega
      · simp only [h, if_false] <;> omega
  · cases hi with
    | none => simp [sliceBounds, HT.sIx]
    | some i =>
      simp only [sliceBounds, HT.sIx, Option.getD_none, show (1 : Int) > 0 by decide, if_true]
      by_cases h : i < 0
      · simp only [h, if_true] <;> omega
      · simp only [h, if_false] <;> omega
theorem slicePick_cut (its : List Value) (lo hi : Option Int) : slicePick its.toArray lo hi none = ((its.drop (HT.sIx its.length 0 lo)).take (HT.sIx its.length its.length hi - HT.sIx its.length 0 lo)).toArray := by
  obtain ⟨h1, h2, h3⟩ := slice_bounds lo hi its.toArray.size
  unfold slicePick
  rw [h1, h2, h3]
  simp only [sliceRange_one, pick_run, List.size_toArray] <;> rfl
/-- xs[lo:hi] of a list: a new list -/
def rSlL (K : PySem.W.Frag) : V → Option Int → Option Int → Hp → VK → Prop := fun x lo hi H Q => ∃ a xs, x = .ref a ∧ SqL K H a xs ∧ ∀ p, H p = none → Q (.ref p) (upd H p (.lst (cutV xs lo hi)))
theorem sl_list : SlR X (rSlL X.K) := by
  intro pins s σ H x v vl vu lo hi sl Q I rx hs pl pu h
  obtain ⟨a, xs, rfl, hx, q⟩ := h
  cases rx
  obtain ⟨its, r, ht, hz⟩ := I.list hx
  have hlen := r.length
  refine ⟨"list", _, slot_list_getitem.lookup, ht.isList.typeIs, ?_⟩
  refine wpAny_getItem_list_slice ht.isList hs pl pu .none (by simp) ?_ (by rw [List.size_toArray] <;> omega)
  rw [slicePick_cut, ← hlen]
  refine ⟨.ref s.heap.objs.size, _, I.laid (t' := s.toks) (o := .lst (cutV xs lo hi)) (fun b ob q => Heap.get?_push_of_some _ q) (Nat.le_refl _) ?_, rfl, q _ (I.hok.fresh (Nat.le_refl _))⟩
  exact ⟨Nat.le_trans (cutV_length xs lo hi) hz, _, 0, (r.drop (HT.sIx xs.length 0 lo)).take (HT.sIx xs.length xs.length hi - HT.sIx xs.length 0 lo), Heap.get?_push_size _ rfl⟩

/-! ### in, not in: flat items -/
/-! ### len, list(x), tuple(x) of any list or tuple that is read -/
theorem call_len_seq : CallR X (.builtin "len") (fun xs H Q => ∃ p ys, xs = [.ref p] ∧ (SqL X.K H p ys ∨ SqT X.K H p ys) ∧ Q (.int ys.length) H) := by
  intro pins s σ H xs us Q I r h
  obtain ⟨p, ys, rfl, hq, q⟩ := h
  obtain ⟨u, rfl, rx⟩ := vals1 r
  cases rx
  have hn := line63
  rcases hq with hq | hq
  · obtain ⟨its, r', pl, hz⟩ := I.list hq
    have hlen := r'.length
    exact Calls.call_len_list pl.isList (by simp only [List.size_toArray] <;> omega) ⟨.int ys.length, H, I.tok _, ⟨s.toks + 1, by rw [List.size_toArray, hlen]⟩, q⟩
  · obtain ⟨its, r', pl, hz⟩ := I.tuple hq
    have hlen := r'.length
    exact len_tuple pl (by simp only [List.size_toArray] <;> omega) ⟨.int ys.length, H, I.tok _, ⟨s.toks + 1, by rw [List.size_toArray, hlen]⟩, q⟩
theorem call_list_of : CallR X (.type "list") (fun xs H Q => ∃ p ys, xs = [.ref p] ∧ (SqL X.K H p ys ∨ SqT X.K H p ys) ∧ ∀ l, H l = none → Q (.ref l) (upd H l (.lst ys))) := by
  intro pins s σ H xs us Q I r h
  obtain ⟨p, ys, rfl, hq, q⟩ := h
  obtain ⟨u, rfl, rx⟩ := vals1 r
  cases rx
  have fin : ∀ (its : List Value), Vals ys its → ys.length ≤ sizeLine → ∀ (h' : Heap) (c' : Nat), (∀ b o', s.heap.get? b = some o' → h'.get? b = some o') →
      h'.get? s.heap.objs.size = some { cls := .type "list", dict := none, data := .seq its.toArray c', slots := #[] } → EP X pins σ Q (.ref s.heap.objs.size) { s with heap := h' } := fun its r' hz h' c' kp e =>
    ⟨.ref s.heap.objs.size, _, I.laid (t' := s.toks) kp (Nat.le_refl _) (show ObjOk X.prog X.w _ h' _ (.lst ys) from ⟨hz, its, c', r', e⟩), rfl, q _ (I.hok.fresh (Nat.le_refl _))⟩
  rcases hq with hq | hq
  · obtain ⟨its, r', pl, hz⟩ := I.list hq
    have hlen := r'.length
    obtain ⟨o, ho, hc, n, hd⟩ := pl.isList
    exact call_list_seq p (.inl rfl) ho hc hd (fun h' c' kp e => fin its r' hz h' c' kp e) (by simp only [List.size_toArray] <;> omega)
  · obtain ⟨its, r', pl, hz⟩ := I.tuple hq
    have hlen := r'.length
    obtain ⟨o, ho, hc, n, hd⟩ := pl
    exact call_list_seq p (.inr rfl) ho hc hd (fun h' c' kp e => fin its r' hz h' c' kp e) (by simp only [List.size_toArray] <;> omega)
/-! ### the call of a builtin's method: o.m(..) -/
/-- the value is of that builtin type -/
def tyV (K : PySem.W.Frag) (T : String) (x : V) (H : Hp) : Prop := match x with
  | .str _ => T = "str"
  | .int _ => T = "int"
  | .ref p => (T = "list" ∧ ∃ xs, SqL K H p xs) ∨ (T = "tuple" ∧ ∃ o, K.lookup p = some o ∧ o.cls = .type "tuple" ∧ o.dict = none) ∨
      (T = "dict" ∧ ((∃ kvs, H p = some (.dK kvs)) ∨ ∃ kvs, H p = some (.dT kvs))) ∨ (T = "set" ∧ ∃ S n, H p = some (.set S n))
  | _ => False
theorem tyV_is {pins : List (Addr × Obj)} {σ : St} {H : Hp} {s : Shared} {T : String} {x : V} {v : Value} (I : Inv X pins σ H s) (r : RelV x v) (ty : tyV X.K T x H) :
    s.TypeIs v T ∧ ∀ a, v = .ref a → ∃ ob, s.heap.get? a = some ob ∧ ob.dict = none := by
  cases x with
  | str z =>
    obtain ⟨t, rfl⟩ := r
    cases (show T = "str" from ty)
    exact ⟨typeIs_str s z t, fun _ e => nomatch e⟩
  | int i =>
    obtain ⟨t, rfl⟩ := r
    cases (show T = "int" from ty)
    exact ⟨typeIs_int s i t, fun _ e => nomatch e⟩
  | ref p =>
    cases r
    rcases ty with ⟨rfl, xs, hq⟩ | ⟨rfl, o, hk, hc, hd⟩ | ⟨rfl, hk⟩ | ⟨rfl, S, n, hk⟩
    · obtain ⟨its, _, pl, _⟩ := I.list hq
      refine ⟨pl.isList.typeIs, fun a e => ?_⟩
      cases e
      obtain ⟨o, n, e, c, hd, _⟩ := pl
      exact ⟨o, e, hd⟩
    · refine ⟨⟨o, I.kIn p o hk, hc⟩, fun a e => ?_⟩
      cases e
      exact ⟨o, I.kIn _ o hk, hd⟩
    · have z : ∃ o, s.heap.get? p = some o ∧ o.ExactDict := by
        rcases hk with ⟨kvs, hk⟩ | ⟨kvs, hk⟩
        · obtain ⟨_, _, _, _, o, _, _, e, ex, _⟩ := I.hok p _ hk
          exact ⟨o, e, ex⟩
        · obtain ⟨_, _, _, _, o, _, _, e, ex, _⟩ := I.hok p _ hk
          exact ⟨o, e, ex⟩
      obtain ⟨o, e, ex⟩ := z
      refine ⟨⟨o, e, ex.1⟩, fun a e2 => ?_⟩
      cases e2
      exact ⟨o, e, ex.2.1⟩
    · obtain ⟨o, _, _, _, e, ex, _⟩ := I.hok p _ hk
      refine ⟨⟨o, e, ex.1⟩, fun a e2 => ?_⟩
      cases e2
      exact ⟨o, e, ex.2.1⟩
  | _ => exact False.elim ty
def tBM0 (K : PySem.W.Frag) (T : String) (r : V → List V → Hp → VK → Prop) (to : TE) : TE := fun σ H Q => to σ H fun x H1 => tyV K T x H1 ∧ r x [] H1 Q
def tBM (K : PySem.W.Frag) (T : String) (r : V → List V → Hp → VK → Prop) (to : TE) (t : TA) : TE := fun σ H Q => to σ H fun x H1 => tyV K T x H1 ∧ t σ H1 fun xs H2 => r x xs H2 Q
variable {o e : Expr} {es : List Expr} {to : TE} {t : TA} {name : Str} {apos cpos : Pos} {T id : String} {r : V → List V → Hp → VK → Prop}
theorem pe_bm0 (pa : PlainAttrs T) (slot : Slot T name id) (hty : typeOf (.builtin id) = pure (.type "method_descriptor")) (hm : MtR X id r) (ho : PE X o to)
    (hbase : attributeBase o name X.env (eval o X.env) = eval o X.env := by rfl) (hline : (apos.endLine == cpos.line) = true := by rfl) : PE X (.Call (.Attribute o name apos) [] [] cpos) (tBM0 X.K T r to) := by
  intro pins s σ H Q I h
  refine wpAny_Call_method0_late hbase hline (thn (ho pins s σ H _ I h) fun v s1 ⟨x, H1, I1, r1, ty, q1⟩ => ?_)
  obtain ⟨h1, h2⟩ := tyV_is I1 r1 ty
  exact ⟨T, id, pa, slot, hty, h1, h2, Calls.callWith_builtin rfl (PySem.evalArgs_none (hm pins s1 σ H1 x [] v [] Q I1 r1 .nil q1))⟩
theorem pe_bm (pa : PlainAttrs T) (slot : Slot T name id) (hty : typeOf (.builtin id) = pure (.type "method_descriptor")) (hm : MtR X id r) (ho : PE X o to) (ha : PA X (e :: es) t)
    (hbase : attributeBase o name X.env (eval o X.env) = eval o X.env := by rfl)
    (hfew : ((backTo cpos (starEach (e :: es) X.env)).all (fun x => !x.1) && (backToKw cpos (keywordEach [] X.env)).all (fun x => x.1.isSome)
      && decide ((e :: es).length + ([] : List Keyword).length + (if ([] : List Keyword).isEmpty then 0 else 1) < 30)) = true := by rfl)
    (hline : (apos.endLine == cpos.line) = true := by rfl) (hs : starEach (e :: es) X.env = (false, eval e X.env) :: starEach es X.env := by rfl) (hplain : (backTo cpos (starEach es X.env)).any (·.1) = false := by rfl) :
    PE X (.Call (.Attribute o name apos) (e :: es) [] cpos) (tBM X.K T r to t) := by
  intro pins s σ H Q I h
  refine wpAny_Call_method_late hbase hfew hline rfl (thn (ho pins s σ H _ I h) fun v s1 ⟨x, H1, I1, r1, ty, q1⟩ => ?_)
  obtain ⟨h1, h2⟩ := tyV_is I1 r1 ty
  refine ⟨T, id, pa, slot, hty, h1, h2, ?_⟩
  have hA := ha cpos pins s1 σ H1 _ I1 q1
  rw [hs] at hA ⊢
  refine Calls.callWith_builtin (by show (false || (backTo cpos (starEach es X.env)).any (·.1)) = false; rw [hplain] <;> rfl) (Calls.evalArgs_plain ?_)
  exact thn hA fun us s2 ⟨vs, H2, I2, r2, q2⟩ => hm pins s2 σ H2 x vs v us Q I2 r1 r2 q2
/- xs.append(e), list.index on a module's tuple .. are MtR facts of 06m -/
end
end L2

namespace L2
open PySem PySem.Spec PyProof.Rows

def MtM (X : Cx) (id : String) (r : V → List V → Hp → VK → Prop) : Prop :=
  ∀ (pins : List (Addr × Obj)) (s : Shared) (σ : St) (H : Hp) (x : V) (xs : List V) (v : Value) (us : List Value) (Q : VK), Inv X pins σ H s → RelV x v → Vals xs us → r x xs H Q →
    wpAny (model X.prog X.w) X.A (call (.builtin id) (v :: us)) (EP X pins σ Q) X.xe s

/-! ### lists of values -/
theorem Vals.one : ∀ {x : V} {us : List Value}, Vals [x] us → ∃ u, us = [u] ∧ RelV x u
  | _, _, .cons r .nil => ⟨_, rfl, r⟩
theorem Vals.two : ∀ {x y : V} {us : List Value}, Vals [x, y] us → ∃ u v, us = [u, v] ∧ RelV x u ∧ RelV y v
  | _, _, _, .cons r (.cons q .nil) => ⟨_, _, rfl, r, q⟩
theorem Vals.zero : ∀ {us : List Value}, Vals [] us → us = []
  | _, .nil => rfl
theorem Vals.dropLast {xs : List V} {us : List Value} (h : Vals xs us) : Vals xs.dropLast us.dropLast := by
  induction h with
  | nil => exact .nil
  | cons r t ih =>
    cases t with
    | nil => exact .nil
    | cons q t' => exact .cons r ih
theorem erase_last {α : Type} (l : List α) : l.eraseIdx (l.length - 1) = l.dropLast := by
  induction l with
  | nil => rfl
  | cons a r ih =>
    cases r with
    | nil => rfl
    | cons b r =>
      have e : (a :: b :: r).length - 1 = ((b :: r).length - 1) + 1 := by
        have h1 : (a :: b :: r).length = r.length + 2 := rfl
        have h2 : (b :: r).length = r.length + 1 := rfl
        omega
      rw [e, List.eraseIdx_cons_succ, ih]
      all_goals rfl
section
variable {X : Cx} {pins : List (Addr × Obj)} {σ : St} {H : Hp} {s : Shared} {l b : Addr} {xs ys zs : List V}

/-! ### the two steps: a tracked list is rewritten, a new list is laid -/
theorem Inv.lset {its its' : List Value} {n : Nat} {f : Array Value → Array Value} {t' : Nat} (I : Inv X pins σ H s) (hH : H l = some (.lst xs))
    (e : s.heap.get? l = some { cls := .type "list", data := .seq its.toArray n }) (hf : f its.toArray = its'.toArray) (hv : Vals ys its') (hz : ys.length ≤ sizeLine) :
    Inv X pins σ (upd H l (.lst ys)) { s with heap := s.heap.update l (Obj.mapSeq f), toks := t' } := by
  have q := PySem.IsL.update e f
  rw [hf] at q
  refine I.write (x := l) (e := l) (by rw [hH]; exact trivial) (.inl rfl) (fun b' u hb hu => (Heap.get?_update_other s.heap (Obj.mapSeq f) (Ne.symm hb)).trans hu) ⟨_, q⟩ ?_
  exact ⟨hz, its', _, hv, q⟩
theorem Inv.lstM (I : Inv X pins σ H s) (hH : H l = some (.lst xs)) : xs.length ≤ sizeLine ∧ ∃ (its : List Value) (n : Nat), Vals xs its ∧ xs.length = its.length ∧ s.heap.get? l = some { cls := .type "list", data := .seq its.toArray n } := by
  obtain ⟨z, its, n, r, e⟩ := I.hok l _ hH
  exact ⟨z, its, n, r, r.length, e⟩

theorem notLongL {n : Nat} (h : n ≤ sizeLine) : Builtin.List.listTooLong n = false := by
  unfold Builtin.List.listTooLong
  exact decide_eq_false (by omega)
end

section
variable {X : Cx}

/-! ### methods -/
def rAppend : V → List V → Hp → VK → Prop := fun x vs H Q => ∃ l xs y, x = .ref l ∧ vs = [y] ∧ H l = some (.lst xs) ∧ xs.length < sizeLine ∧ Q .non (upd H l (.lst (xs ++ [y])))
theorem mt_append : MtM X "list.append" rAppend := by
  intro pins s σ H x vs v us Q I rx rv h
  obtain ⟨l, xs, y, rfl, rfl, hH, hz, q⟩ := h
  cases rx
  obtain ⟨u, rfl, ru⟩ := rv.one
  obtain ⟨z, its, n, r, hl, e⟩ := I.lstM hH
  refine call_meets F.slot_list_append ⟨_, e, rfl⟩ F.entry_list_append (F.args_list_append_2 _ _) (PySem.list_append l its.toArray n u (by rw [List.size_toArray]; omega)) ⟨e, ?_⟩
  refine ⟨.non, _, I.lset (its' := its ++ [u]) hH e (by simp) (r.append (.cons ru .nil)) ?_, rfl, q⟩
  rw [List.length_append, List.length_singleton]
  omega

def rExtend : V → List V → Hp → VK → Prop := fun x vs H Q => ∃ l b xs zs, x = .ref l ∧ vs = [.ref b] ∧ H l = some (.lst xs) ∧ H b = some (.lst zs) ∧ xs.length + zs.length ≤ sizeLine ∧ Q .non (upd H l (.lst (xs ++ zs)))
theorem mt_extend : MtM X "list.extend" rExtend := by
  intro pins s σ H x vs v us Q I rx rv h
  obtain ⟨l, b, xs, zs, rfl, rfl, hH, hB, hz, q⟩ := h
  cases rx
  obtain ⟨u, rfl, ru⟩ := rv.one
  cases ru
  obtain ⟨z, its, n, r, hl, e⟩ := I.lstM hH
  obtain ⟨z2, its2, n2, r2, hl2, e2⟩ := I.lstM hB
  have hsz : its.toArray.size + its2.toArray.size ≤ sizeLine := by rw [List.size_toArray, List.size_toArray]; omega
  have hlong : ¬ (!its.toArray.isEmpty && Builtin.List.listTooLong (its.toArray.size + its2.toArray.size)) = true := by
    rw [notLongL hsz, Bool.and_false]
    exact Bool.false_ne_true
  refine call_meets F.slot_list_extend ⟨_, e, rfl⟩ F.entry_list_extend (F.args_list_extend_2 _ _)
    (AutoSeq1.list_extend_list_list_0 l its.toArray n b its2.toArray n2 hlong (by rw [List.size_toArray]; omega) (by omega)) ⟨e, e2, ?_⟩
  refine ⟨.non, _, I.lset (its' := its ++ its2) hH e (by simp) (r.append r2) ?_, rfl, q⟩
  rw [List.length_append]
  omega

def rPop : V → List V → Hp → VK → Prop := fun x vs H Q => ∃ l xs y, x = .ref l ∧ vs = [] ∧ H l = some (.lst xs) ∧ xs[xs.length - 1]? = some y ∧ Q y (upd H l (.lst xs.dropLast))
theorem mt_pop : MtM X "list.pop" rPop := by
  intro pins s σ H x vs v us Q I rx rv h
  obtain ⟨l, xs, y, rfl, rfl, hH, hy, q⟩ := h
  cases rx
  have hus := rv.zero
  subst hus
  obtain ⟨z, its, n, r, hl, e⟩ := I.lstM hH
  obtain ⟨u, hu, ru⟩ := r.get hy
  have hy' : its.toArray[its.toArray.size - 1]? = some u := by
    show its.toArray[its.length - 1]? = some u
    rw [← Array.getElem?_toList, ← hl]
    exact hu
  refine call_meets F.slot_list_pop ⟨_, e, rfl⟩ F.entry_list_pop (F.args_list_pop_1 _) (MeetsSeq.list_pop_last l its.toArray n u hy' (by rw [List.size_toArray]; omega)) ⟨e, ?_⟩
  refine ⟨y, _, I.lset (its' := its.dropLast) hH e ?_ r.dropLast ?_, ru, q⟩
  · show its.toArray.eraseIdxIfInBounds (its.toArray.size - 1) = its.dropLast.toArray
    rw [List.size_toArray, List.eraseIdxIfInBounds_toArray, erase_last]
  · rw [List.length_dropLast]
    omega

/-! ### list + list, list += list, list * int -/
/-! ### del xs[i] -/
end

/-! ### xs[a:b] = ys -/
section
variable {prog : Program} {w : World} {A : Around} {E : Value → Shared → Prop} {s : Shared}
end

section
variable {X : Cx}
end
end L2

namespace Att
open PySem PySem.W PySem.Calls PyProof.Rows

/-! ### the script -/
theorem ints_of_wellAll {P : Params} {h : Heap} : ∀ (ns : List Int) (vs : List Value), WellAll P h vs (ns.map WData.int) → IntsAre vs ns := by
  intro ns
  induction ns with
  | nil =>
    intro vs w
    rw [List.map_nil] at w
    cases w
    exact .nil
  | cons n ns ih =>
    intro vs w
    rw [List.map_cons] at w
    cases w with
    | cons a b =>
      cases a
      exact .cons _ _ (ih _ b)

theorem script_of {l : OpenLaw} {n : Nat} (hn : l.most = some n) {P : Params} {h : Heap} {args : List WData} {vals : List Value}
    (hpre : l.row.toRowW.claim.pre args = true) (hwl : WellAll P h vals args) :
    ∃ a vs ns, vals = [Value.ref a] ∧ args = [WData.list (ns.map WData.int)] ∧ h.get? a = some { cls := .type "list", data := .seq vs.toArray } ∧ IntsAre vs ns ∧ ns.length ≤ n := by
  have hsh : WShape.hasAll [] args [.list .int] = true := (pre_splitW hpre).1
  have hc : l.pre.holds [] { args := args } = true := (pre_splitW hpre).2
  obtain ⟨d, r, rfl, h1, h2⟩ := hasAllW_cons hsh
  obtain rfl := hasAllW_nil h2
  obtain ⟨xs, rfl, h3⟩ := hasW_list h1
  obtain ⟨ns, rfl⟩ := items_int h3
  have hlen : ns.length ≤ n := by
    unfold OpenLaw.pre at hc
    have h4 : (WTm.not (.lt (.lit (.int (n : Int))) (.len (.arg 0)))).holds [] { args := [.list (ns.map .int)] } = true := by
      have h4 := (holds_andW hc).1
      rw [hn] at h4
      exact h4
    have h5 := condW_of h4 (w_not (w_lt w_lit (w_len_list (w_arg rfl))))
    rw [List.length_map] at h5
    refine Nat.le_of_not_lt fun q => ?_
    have q' : (n : Int) < ((ns.length : Nat) : Int) := by omega
    first
      | (rw [decide_eq_true q'] at h5; exact absurd h5 (by decide))
      | (simp at h5; omega)
  cases hwl with
  | cons w1 w2 =>
    cases w2
    cases w1 with
    | list ho hall => exact ⟨_, _, ns, rfl, rfl, ho, ints_of_wellAll ns _ hall, hlen⟩

theorem post_true (l : OpenLaw) (args : List WData) : l.row.toRowW.claim.post args (.bool true) args = true :=
  postW_of (r := l.row.toRowW) (X := (true == true))
    (show WShape.has [] (.bool true) .bool = true by first | rfl | decide | simp [WShape.has, WShape.arms, WShape.armsAll])
    (show (WTm.eq .res (.lit (.bool true))).value [] { args := args, res := some (.bool true), after := args } = some (.bool (true == true)) from w_eq_bool (w_res rfl) w_lit) rfl

/-! ### the attachment: holds_open's last premise (the goal 'hc' behind k_head) from a wpAny of the law's body -/
/-- the same from a codeAny of the CALL (for a layer whose function contracts speak of calls) -/
theorem attach_call {l : OpenLaw} {n : Nat} {q : Program} {loose : List Str} {XP : (Str → Option Value) → Heap → Prop} {YP : World → Heap → Prop} {d : DefRec}
    (hn : l.most = some n) (hdf : d.params.defaults = [])
    (call : ∀ (w : World) (s₀ s₁ : Shared) (mg mb : Str → Option Value) (fa : Addr) (o : Obj) (pm cd doc : Value) (a : Addr) (vs : List Value) (ns : List Int),
      Ground q loose [] XP w s₀ mg mb s₁.heap → YP w s₁.heap →
      s₁.heap.get? fa = some o → o.data = .func (docDef d.name d.params d.body d.scope pm cd doc) → s₁.heap.CodeRec cd d.name → mg d.name = some (.ref fa) →
      s₁.heap.get? a = some { cls := .type "list", data := .seq vs.toArray } → IntsAre vs ns → ns.length ≤ n → s₁.gens = #[] →
      codeAny (model l.prog w) callerA (.call (.ref fa) ⟨[.ref a], []⟩) (fun r s' => r = .ok (.ret (.bool true)) ∧ OldK s₁.heap s'.heap ∧ s'.os = s₁.os ∧ AllBare s'.gens) s₁) :
    WalkO q loose XP YP l.row.toRowW d [] (fun f vs => PySem.call f vs) := by
  intro w s₀ s₁ mg mb G Y fa o pm cd doc dV kV ho hd hcd hD hmg hg args vals as hpre hlay hrd hwl hlo
  obtain rfl : dV = .none := Dflts.none hD hdf
  obtain rfl : kV = .none := Dflts.noKw hD
  obtain ⟨a, vs, ns, rfl, rfl, hobj, hints, hlen⟩ := script_of hn hpre hwl
  refine enter_call (codeAny_mono (call w s₀ s₁ mg mb fa o pm cd doc a vs ns G Y ho (fd_plain hd) hcd hmg hobj hints hlen hg) fun r s' hq => ?_)
  obtain ⟨rfl, h2, h3, h4⟩ := hq
  exact ⟨.inl ⟨.bool true, .bool true, [], rfl, fun _ => rfl, .bool true, post_true l _, fun _ => ⟨List.Pairwise.nil, fun _ hm => (nomatch hm)⟩⟩, h2, h3, h4⟩

/-! ### rules over ANY heap (no ledger) from facts about the written part K: the library's own take a ledger (News) for what they write -/
section
variable {prog : Program} {w : World} {A : Around} {E : Value → Shared → Prop} {s : Shared} {K : Frag}

/-! the whole heap as the ledger: makes every rule that writes through a ledger a rule over any heap -/
end
end Att

namespace L2
open PySem PySem.Spec PyProof.Rows

theorem vals_ints : ∀ {vs : List Value} {ns : List Int}, IntsAre vs ns → Vals (ns.map V.int) vs
  | _, _, .nil => .nil
  | _, _, .cons n t h => .cons ⟨t, rfl⟩ (vals_ints h)

/-- nothing is tracked but the script, known to the object (or it is an object of the module) -/
def Only (H : Hp) : Prop := ∀ b, H b = none ∨ ∃ o xs, H b = some (.frz o (.lst xs))

/-- THE HEAD: the law's promise, at the heap behind the top. F, the promise of the law's def, may use that base is part of the heap (so K.In base, base.Ns mainGlobals mg stand in Mod) -/
theorem law_call {P : Program} {w : World} {K : PySem.W.Frag} {mg mb : Str → Option Value} {CX : CXT} {k : Nat} {fa a : Addr} {fd : FuncData} {x : Str} {sp : Sp} {s₁ : Shared} {vs : List Value} {ns : List Int}
    (KX : K.In s₁.heap) (hns : s₁.heap.Ns mainGlobals mg) (hb : s₁.heap.Ns builtinsNs mb) (hbb : ∀ x : Str, x ≠ "__name__" → mb x = bootBuiltins x) (hlim : s₁.heap.NoLimit) (hg : s₁.gens = #[])
    (ha : s₁.heap.get? a = some { cls := .type "list", data := .seq vs.toArray }) (hi : IntsAre vs ns) (hl : ns.length ≤ sizeLine) (hr : Room k callerA)
    (F : ∀ base : Heap, K.In base → base.Ns mainGlobals mg → FnOk P w K mg base CX k fa fd [x] sp) (hbind : ∀ (s : Shared) (u : Value), BindsTo s fd ⟨[u], []⟩ [(x, u)])
    (hsp : ∀ H : Hp, Only H → SqL K H a (ns.map V.int) → sp [.ref a] H (fun v _ => v = .bl true) fun _ _ _ => False)
    (hCX : ∀ H e s', CX [] H s₁ (fun _ _ _ => False) e s' → False) :
    codeAny (model P w) callerA (.call (.ref fa) ⟨[.ref a], []⟩) (fun r s' => r = .ok (.ret (.bool true)) ∧ OldK s₁.heap s'.heap ∧ s'.os = s₁.os ∧ AllBare s'.gens) s₁ := by
  have rv := vals_ints hi
  have lenV := hi.length
  -- from an abstract heap in which nothing but the script may be tracked
  have core : ∀ H : Hp, Only H → SqL K H a (ns.map V.int) → HOk P w H s₁.heap → (∀ b, H b ≠ none → b = a) → (H a ≠ none → K.lookup a = none) →
      codeAny (model P w) callerA (.call (.ref fa) ⟨[.ref a], []⟩) (fun r s' => r = .ok (.ret (.bool true)) ∧ OldK s₁.heap s'.heap ∧ s'.os = s₁.os ∧ AllBare s'.gens) s₁ := by
    intro H hO hS hok hA hK
    have base_of : ∀ {b : Addr} {o : Obj}, s₁.heap.get? b = some o → H b = none → (hidT s₁.heap H).get? b = some o := fun e n => hidT_get e n
    have noA : ∀ {b : Addr} {o : Obj} {es : Array DictEntry} {ep : Nat}, s₁.heap.get? b = some o → o.data = .dict es ep → H b = none := fun {b o es ep} e d => by
      cases q : H b with
      | none => rfl
      | some u =>
        have e' : b = a := hA b (by rw [q]; simp)
        subst e'
        rw [ha] at e; cases e
        have d' : Data.seq vs.toArray _ = Data.dict es ep := d
        cases d'
    have nsK : ∀ {b : Addr} {m : Str → Option Value}, s₁.heap.Ns b m → (hidT s₁.heap H).Ns b m := fun {b m} ⟨o, es, ep, e, d, r⟩ => ⟨o, es, ep, base_of e (noA e d), d, r⟩
    have hKb : K.In (hidT s₁.heap H) := fun b o e => base_of (KX b o e) (by
      cases q : H b with
      | none => rfl
      | some u =>
        have e' : b = a := hA b (by rw [q]; simp)
        subst e'
        rw [hK (by rw [q]; simp)] at e; cases e)
    have hM : Mod K mg (hidT s₁.heap H) := ⟨hKb, nsK hns, ⟨mb, nsK hb, hbb⟩, let ⟨mc, h1, h2⟩ := hlim; ⟨mc, nsK h1, h2⟩⟩
    have e0 : Env0 P w K mg (hidT s₁.heap H) callerA [] s₁ H := ⟨rfl, hM, fun b o e => of_hidT e, Nat.le_of_eq (hidT_size _ _), trivial, fun b hb => absurd (show b ∈ ([] : List Addr) from hb) (by simp), hok, .of_eq hg⟩
    refine codeAny_mono ((F _ hKb (nsK hns)).run callerA [] s₁ H ⟨[.ref a], []⟩ [.ref a] [.ref a] _ _ hr e0 (hbind s₁ (.ref a)) (.cons rfl .nil) (hsp H hO hS)) fun r s' h => ?_
    cases r with
    | error e => exact (hCX H e s' h).elim
    | ok fl =>
      cases fl with
      | next => exact False.elim h
      | brk => exact False.elim h
      | cont => exact False.elim h
      | ret u =>
        obtain ⟨v, H', os, bare, un, hok', r', q⟩ := h
        have q' : v = .bl true := q
        subst q'
        obtain rfl : u = Value.bool true := r'
        refine ⟨rfl, OldK.of_keep fun b o e => ?_, os, bare⟩
        cases q : H b with
        | none => exact un.keep b o e q (by intro z; exact absurd (show b ∈ ([] : List Addr) from z) (by simp)) (by simp)
        | some u =>
          rcases hO b with z | ⟨ob, xs, z⟩
          · rw [q] at z; cases z
          · have z2 := un.frzs b ob _ z
            obtain ⟨e1, _⟩ := hok b _ z
            obtain ⟨e2, _⟩ := hok' b _ z2
            rw [e] at e1; cases e1
            exact e2
  cases hk : K.lookup a with
  | some o =>
    -- the script is one of the module's own objects
    have e := KX a o hk
    rw [ha] at e
    cases e
    refine core (fun _ => none) (fun _ => .inl rfl) (.inr ⟨_, vs.toArray, _, hk, rfl, rfl, rfl, by rw [List.size_toArray, lenV]; exact hl, by simpa using rv⟩) (fun b u z => by have z' : (none : Option HO) = some u := z; cases z') (fun b z => absurd rfl z) fun z => absurd rfl z
  | none =>
    refine core (fun b => if b = a then some (.frz { cls := .type "list", data := .seq vs.toArray } (.lst (ns.map V.int))) else none) (fun b => ?_) (.inl (.inr ⟨{ cls := .type "list", data := .seq vs.toArray }, if_pos rfl⟩)) (fun b u z => ?_) (fun b z => ?_) fun _ => hk
    · by_cases hb : b = a
      · exact .inr ⟨_, _, if_pos hb⟩
      · exact .inl (if_neg hb)
    · by_cases hb : b = a
      · have z' := (if_pos hb).symm.trans z
        cases z'
        subst hb
        exact ⟨ha, by rw [List.length_map]; exact hl, vs, _, rv, ha⟩
      · have z' := (if_neg hb).symm.trans z
        cases z'
    · by_cases hb : b = a
      · exact hb
      · exact absurd (if_neg hb) z
end L2

namespace L2
open PySem PySem.Spec PyProof.Rows

/-- the goal that k_head leaves (case hc), from the law's promise. F gives the function object fd (K's own) once, then the promise over every base -/
theorem walk_of {l : PySem.W.OpenLaw} {n k : Nat} {q : Program} {loose : List Str} {XP : (Str → Option Value) → Heap → Prop} {YP : World → Heap → Prop} {d : DefRec} {K : Params → PySem.W.Frag} {CX : World → CXT} {sp : World → Sp} {x : Str}
    (hn : l.most = some n) (hn2 : n ≤ sizeLine) (hdf : d.params.defaults = []) (hr : Room k callerA)
    (hY : ∀ (w : World) (h : Heap), YP w h → (K w.params).In h)
    (F : ∀ (w : World) (mg : Str → Option Value) (fa : Addr) (h : Heap), (K w.params).In h → h.Ns mainGlobals mg → mg d.name = some (.ref fa) →
      ∃ fd : FuncData, (∀ (s : Shared) (u : Value), BindsTo s fd ⟨[u], []⟩ [(x, u)]) ∧
        ∀ base : Heap, (K w.params).In base → base.Ns mainGlobals mg → FnOk l.prog w (K w.params) mg base (CX w) k fa fd [x] (sp w))
    (hsp : ∀ (w : World) (H : Hp) (a : Addr) (ns : List Int), ns.length ≤ n → Only H → SqL (K w.params) H a (ns.map V.int) → sp w [.ref a] H (fun v _ => v = .bl true) fun _ _ _ => False)
    (hCX : ∀ (w : World) (H : Hp) (s : Shared) (e : Value) (s' : Shared), CX w [] H s (fun _ _ _ => False) e s' → False) :
    PySem.W.WalkO q loose XP YP l.row.toRowW d [] (fun f vs => PySem.call f vs) := by
  refine Att.attach_call hn hdf fun w s₀ s₁ mg mb fa o pm cd doc a vs ns G Y ho hd hcd hmg hobj hints hlen hg => ?_
  have KX := hY w _ Y
  obtain ⟨fd, hb, hF⟩ := F w mg fa _ KX G.T.g hmg
  exact law_call KX G.T.g G.T.b G.T.builtins G.T.nolimit hg hobj hints (Nat.le_trans hlen hn2) hr hF hb (fun H hO hS => hsp w H a ns hlen hO hS) fun H e s' => hCX w H s₁ e s'
end L2

/- THE LAST THEOREM (shape; LID, My.* are yours):
   My.Adr: a structure of the addresses that your layer names (classes, functions); My.Txt K t: a structure (Prop) of the equations over K;
   My.txt_mk : {K} {implicit addresses ..} (e1 : nsIn K mainGlobals "law" = some (some (.ref f))) (e2 : K.lookup f = some ⟨oc, od, .func (fnOf "law" "law" params body scope dV kV doc pm an cdv ct), sl⟩) (e3 : codeIn K cdv "law" = true) .. : ∃ t, My.Txt K t

set_option maxRecDepth 100000 in
set_option maxHeartbeats 0 in
theorem PySem.Challenge.cw_LID_holds : PySem.Challenge.rw_LID.Holds := by
  w_on; o_law; k_head; (case hw => w_witness2)
  k_fill
  refine L2.walk_of (l := PySem.Challenge.rw_LID) (n := 63) (k := 40) (x := "script") (CX := fun w => ..) (sp := fun _ => My.sp_law) rfl (by decide) rfl ⟨rfl, by decide, by decide⟩ (fun w h Y => PySem.W.kIn_of Y) ?F ?S ?C
  case F =>
    intro w mg fa h KX G hmg
    have T : ∃ t, My.Txt (L2.KOf KX) t := by
      dsimp only [L2.KOf]                          -- K must stand as «<heap const> w.params» for k_is
      refine' My.txt_mk ?e1 ?e2 ?e3 ..
      (case e1 => PySem.W.k_is)                    -- in the order: a name -> its address -> its object -> its parts
      (case e2 => PySem.W.k_is)
      ..
    obtain ⟨t, T⟩ := T
    have e0 := hmg.symm.trans (PySem.W.mg_of KX G T.law)
    cases e0                                       -- fa is the law's own address
    exact ⟨_, fun s u => .of_eq rfl, fun base kb nb => My.law_fn T kb nb⟩     -- if «.of_eq rfl» comes too early: refine' ⟨_, ?b, fun base kb nb => My.law_fn T kb nb⟩; exact fun s u => .of_eq rfl
  case S => exact fun w H a ns hl hO hS => ..
  case C => exact ..
(the tactic k_is has no namespace: write k_is) -/

/-! SHORT WORDS over the layer: a def of the text, its body, what a loop and a test want. -/
namespace L2
open PySem PySem.Spec PyProof.Rows

/-! ### the text by places -/
def defArgs (s : Stmt) : Arguments := match s with
  | .FunctionDef _ a _ _ _ _ _ _ _ _ => a
  | _ => { posonlyargs := [], args := [], vararg := none, kwonlyargs := [], kw_defaults := [], kwarg := none, defaults := [] }
def defBody (s : Stmt) : List Stmt := match s with
  | .FunctionDef _ _ b _ _ _ _ _ _ _ => b
  | _ => []
def defScope (s : Stmt) : Scope := match s with
  | .FunctionDef _ _ _ _ _ _ sc _ _ _ => sc
  | _ => { kind := .function, names := [], isGenerator := false, isCoroutine := false }

/-! ### no exception leaves a def -/
abbrev CX0 : CXT := fun _ _ _ _ _ _ => False
abbrev E0 : XK := fun _ _ _ => False
theorem pass0 {X : Cx} : Passes CX0 X E0 := fun _ _ _ _ _ _ _ h => h.elim

/-! ### a def (or method) of the text as it stands behind the top -/
structure Fun (K : PySem.W.Frag) (x qual : Str) (st : Stmt) (f : Addr) (fd : FuncData) : Prop where
  ex : ∃ (oc : Value) (od : Option Addr) (kV doc pm : Value) (an : Option Addr) (cdv ct : Value) (osl : Array (Option Value)),
    fd = PySem.W.fnOf x qual (defArgs st) (defBody st) (defScope st) .none kV doc pm an cdv ct ∧ K.lookup f = some ⟨oc, od, .func fd, osl⟩ ∧ PySem.W.codeIn K cdv qual = true
  kp : PySem.W.keepIn K (.ref f) = true
section
variable {P : Program} {w : World} {K : PySem.W.Frag} {mg : Str → Option Value} {base : Heap}
/-- THE RULE for a def: its body as a term of rules, and the reading of that term -/
theorem Fun.ok {x qual : Str} {st : Stmt} {f : Addr} {fd : FuncData} {N ps : List Str} {k : Nat} {sp : Sp} (F : Fun K x qual st f fd) (S : FnScope N ps (defScope st)) (len : ∀ vs H Q E, sp vs H Q E → vs.length = ps.length)
    (hbody : ∀ (cdv : Value) (A : Around) (outer : List Env) (s : Shared) (H : Hp) (vs : List V) (Q : VK) (E : XK), Room k (A.deeper (envOfC qual (defScope st) s.heap.objs.size f cdv)) → sp vs H Q E →
      ∃ t, PSs (cxOf CX0 P w K mg base N qual (defScope st) f cdv A outer s H E).nox (defBody st) t ∧ t { nx := fun _ H' => Q .non H', rt := Q } (start N vs) H) : FnOk P w K mg base CX0 (k + 1) f fd ps sp := by
  obtain ⟨oc, od, kV, doc, pm, an, cdv, ct, osl, rfl, lk, hcd⟩ := F.ex
  refine fn_of lk hcd S len fun A outer s H vs Q E hr hsp => ?_
  obtain ⟨t, h, q⟩ := hbody cdv A outer s H vs Q E hr hsp
  exact ⟨t, h.nox, q⟩
/-- how its arguments bind (no defaults): h is «fun _ _ _ _ _ _ us hl => match us, hl with | [_, _], _ => rfl», one _ a parameter -/
theorem Fun.binds {x qual : Str} {st : Stmt} {f : Addr} {fd : FuncData} {ps : List Str} (F : Fun K x qual st f fd)
    (h : ∀ (kV doc pm : Value) (an : Option Addr) (cdv ct : Value) (us : List Value), us.length = ps.length → bindArgs (PySem.W.fnOf x qual (defArgs st) (defBody st) (defScope st) .none kV doc pm an cdv ct) ⟨us, []⟩ = pure (ps.zip us)) : Binds K fd ps [] := by
  obtain ⟨oc, od, kV, doc, pm, an, cdv, ct, osl, rfl, lk, hcd⟩ := F.ex
  exact .all (h kV doc pm an cdv ct)
theorem fun_mk {x qual : Str} {st : Stmt} {f : Addr} {oc : Value} {od an : Option Addr} {osl : Array (Option Value)} {kV doc pm cdv ct : Value} (l : K.lookup f = some ⟨oc, od, .func (PySem.W.fnOf x qual (defArgs st) (defBody st) (defScope st) .none kV doc pm an cdv ct), osl⟩)
    (c : PySem.W.codeIn K cdv qual = true) (k : PySem.W.keepIn K (.ref f) = true) : Fun K x qual st f (PySem.W.fnOf x qual (defArgs st) (defBody st) (defScope st) .none kV doc pm an cdv ct) := ⟨⟨oc, od, kV, doc, pm, an, cdv, ct, osl, rfl, l, c⟩, k⟩
end
/-! ### expressions in short: the name that stands in the i-th slot -/
section
variable {X : Cx}
theorem pv (i : Nat) {x : Str} {pos : Pos} (hN : X.N[i]? = some x := by rfl) (hv : Vis X.env.scope x := by first | exact Or.inl rfl | exact Or.inr (Or.inl rfl) | exact Or.inr (Or.inr rfl)) (hd : (x == ("__debug__" : Str)) = false := by decide)
    (hcd : (x == ("__classdict__" : Str)) = false := by decide) : PE X (.Name x pos) (tVar i) := pe_var hN hv hd hcd
end

/-! ### tests -/
theorem iteF {A B : Prop} (h : B) : if false = true then A else B := by
  rw [if_neg Bool.false_ne_true]
  exact h
theorem iteT {A B : Prop} (h : A) : if true = true then A else B := by
  rw [if_pos rfl]
  exact h
theorem ite2 {c A B : Prop} [Decidable c] (h1 : c → A) (h2 : ¬ c → B) : if c then A else B := by
  by_cases h : c
  · rw [if_pos h]
    exact h1 h
  · rw [if_neg h]
    exact h2 h
/-! ### heaps -/
/-- all that was tracked is as it was -/
def Same (H H' : Hp) : Prop := ∀ b o, H b = some o → H' b = some o
theorem Same.refl (H : Hp) : Same H H := fun _ _ h => h
theorem Same.trans {H H1 H2 : Hp} (a : Same H H1) (b : Same H1 H2) : Same H H2 := fun c o h => b c o (a c o h)
theorem Same.free {H H' : Hp} (e : Same H H') {l : Addr} (h : H' l = Option.none) : H l = Option.none := by
  cases q : H l with
  | none => rfl
  | some o =>
    rw [e l o q] at h
    cases h
theorem Same.seq {K : PySem.W.Frag} {H H' : Hp} {a : Addr} {xs : List V} (e : Same H H') (h : SqL K H a xs) : SqL K H' a xs := by
  rcases h with (h | ⟨o, h⟩) | h
  · exact .inl (.inl (e _ _ h))
  · exact .inl (.inr ⟨o, e _ _ h⟩)
  · exact .inr h

end L2

set_option maxHeartbeats 4000000
namespace L2
open PySem PySem.Spec PyProof.Rows

/-! ### a comprehension's block -/
theorem lookup_in {α : Type} : ∀ {l : List (Str × α)} {x : Str} {k : α}, l.lookup x = some k → (x, k) ∈ l
  | [], _, _, h => by simp at h
  | (n, k') :: r, x, k, h => by
    rw [List.lookup_cons] at h
    cases hx : x == n with
    | true =>
      rw [hx] at h
      have e : k' = k := Option.some.inj h
      have e2 : x = n := eq_of_beq hx
      subst e e2
      exact List.mem_cons_self
    | false =>
      rw [hx] at h
      exact List.mem_cons_of_mem _ (lookup_in h)

def clFrom (cells : List (Str × Addr)) : List (Str × NameKind) → List (Str × Addr) → List (Str × Addr)
  | [], acc => acc
  | (n, k) :: r, acc => clFrom cells r (if (k == NameKind.free) = true then (match cells.lookup n with | some c => (n, c) :: acc | none => acc) else acc)

theorem clFrom_forIn {env : Env} {f : Str × NameKind → List (Str × Addr) → Sem (ForInStep (List (Str × Addr)))}
    (hf : ∀ x acc, f x acc = if (x.2 == NameKind.free) = true then (cellOf env x.1 >>= fun c => pure (ForInStep.yield ((x.1, c) :: acc))) else pure (ForInStep.yield acc)) :
    ∀ (names : List (Str × NameKind)) (acc : List (Str × Addr)), (∀ y ∈ names, y.2 = .free → ∃ c, env.cells.lookup y.1 = some c) → (forIn names acc f : Sem _) = pure (clFrom env.cells names acc)
  | [], acc, _ => rfl
  | (n, k) :: r, acc, h => by
    have ih := fun acc' => clFrom_forIn hf r acc' fun y hy => h y (List.mem_cons_of_mem _ hy)
    rw [List.forIn_cons, hf]
    by_cases hk : (k == NameKind.free) = true
    · have hk' : k = .free := by simpa using hk
      obtain ⟨c, hc⟩ := h (n, k) List.mem_cons_self hk'
      dsimp only at hc
      unfold clFrom
      dsimp only
      rw [if_pos hk, if_pos hk]
      have e : cellOf env n = pure c := by unfold cellOf; rw [hc]
      rw [e, hc]
      exact ih ((n, c) :: acc)
    · unfold clFrom
      dsimp only
      rw [if_neg hk, if_neg hk]
      exact ih acc

theorem closureFor_clFrom {env : Env} {scope : Scope} (h : ∀ y ∈ scope.names, y.2 = .free → ∃ c, env.cells.lookup y.1 = some c) : closureFor scope env = pure (clFrom env.cells scope.names []) := by
  simp only [closureFor]
  rw [clFrom_forIn (env := env) (fun x acc => ?_) scope.names [] h]
  · rfl
  · obtain ⟨n, k⟩ := x
    cases k <;> rfl

theorem clFrom_sub {cells : List (Str × Addr)} : ∀ {names : List (Str × NameKind)} {acc : List (Str × Addr)} {x : Str} {c : Addr}, (∀ y d, acc.lookup y = some d → cells.lookup y = some d) → (clFrom cells names acc).lookup x = some c → cells.lookup x = some c
  | [], _, x, c, ha, h => ha x c h
  | (n, k) :: r, acc, x, c, ha, h => by
    refine clFrom_sub (names := r) (fun y d e => ?_) h
    by_cases hk : (k == NameKind.free) = true
    · rw [if_pos hk] at e
      cases hc : cells.lookup n with
      | none => rw [hc] at e; exact ha y d e
      | some c' =>
        rw [hc] at e
        dsimp only at e
        rw [List.lookup_cons] at e
        cases hy : y == n with
        | true => rw [hy] at e; rw [eq_of_beq hy, hc]; exact e
        | false => rw [hy] at e; exact ha y d e
    · rw [if_neg hk] at e; exact ha y d e
theorem clFrom_keep {cells : List (Str × Addr)} : ∀ {names : List (Str × NameKind)} {acc : List (Str × Addr)} {x : Str} {c : Addr}, cells.lookup x = some c → acc.lookup x = some c → (clFrom cells names acc).lookup x = some c
  | [], _, _, _, _, h => h
  | (n, k) :: r, acc, x, c, hc, h => by
    refine clFrom_keep (names := r) hc ?_
    by_cases hk : (k == NameKind.free) = true
    · rw [if_pos hk]
      cases hn : cells.lookup n with
      | none => exact h
      | some c' =>
        dsimp only
        rw [List.lookup_cons]
        cases hy : x == n with
        | true => rw [eq_of_beq hy, hn] at hc; exact hc
        | false => exact h
    · rw [if_neg hk]; exact h
theorem clFrom_free {cells : List (Str × Addr)} : ∀ {names : List (Str × NameKind)} {acc : List (Str × Addr)} {x : Str} {c : Addr}, (x, NameKind.free) ∈ names → cells.lookup x = some c → (clFrom cells names acc).lookup x = some c
  | [], _, _, _, h, _ => nomatch h
  | (n, k) :: r, acc, x, c, h, hc => by
    rcases List.mem_cons.mp h with e | e
    · cases e
      unfold clFrom
      rw [if_pos (show (NameKind.free == NameKind.free) = true from rfl), hc]
      refine clFrom_keep hc ?_
      rw [List.lookup_cons, beq_self_eq_true]
    · exact clFrom_free (names := r) e hc

theorem relabel_of {env : Env} : ∀ {names : List (Str × NameKind)} {x : Str} {k : NameKind},
    (names.map fun (n, k) => if (k == NameKind.free && env.scope.kind == .function && env.kindOf n == some .cell) then (n, NameKind.cell) else (n, k)).lookup x = some k →
    ∃ k0, names.lookup x = some k0 ∧ (k = k0 ∨ (k0 = .free ∧ k = .cell))
  | [], _, _, h => by simp at h
  | (n, k') :: r, x, k, h => by
    have ih := @relabel_of env r x k
    rw [List.map_cons] at h
    by_cases hc : (k' == NameKind.free && env.scope.kind == .function && env.kindOf n == some .cell) = true
    · dsimp only at h
      rw [if_pos hc, List.lookup_cons] at h
      rw [List.lookup_cons]
      cases hx : x == n with
      | true =>
        rw [hx] at h
        have hk : k' = .free := by
          rw [Bool.and_eq_true, Bool.and_eq_true] at hc
          simpa using hc.1.1
        exact ⟨k', rfl, .inr ⟨hk, (Option.some.inj h).symm⟩⟩
      | false => rw [hx] at h; exact ih h
    · dsimp only at h
      rw [if_neg hc, List.lookup_cons] at h
      rw [List.lookup_cons]
      cases hx : x == n with
      | true => rw [hx] at h; exact ⟨k', rfl, .inl (Option.some.inj h).symm⟩
      | false => rw [hx] at h; exact ih h
theorem relabel_free {env : Env} : ∀ {names : List (Str × NameKind)} {x : Str}, names.lookup x = some .free →
    (names.map fun (n, k) => if (k == NameKind.free && env.scope.kind == .function && env.kindOf n == some .cell) then (n, NameKind.cell) else (n, k)).lookup x = some .cell ∨
    (names.map fun (n, k) => if (k == NameKind.free && env.scope.kind == .function && env.kindOf n == some .cell) then (n, NameKind.cell) else (n, k)).lookup x = some .free
  | [], _, h => by simp at h
  | (n, k') :: r, x, h => by
    have ih := @relabel_free env r x
    rw [List.map_cons]
    rw [List.lookup_cons] at h
    by_cases hc : (k' == NameKind.free && env.scope.kind == .function && env.kindOf n == some .cell) = true
    · dsimp only
      rw [if_pos hc, List.lookup_cons]
      cases hx : x == n with
      | true => exact .inl rfl
      | false => rw [hx] at h; exact ih h
    · dsimp only
      rw [if_neg hc, List.lookup_cons]
      cases hx : x == n with
      | true => rw [hx] at h; exact .inr h
      | false => rw [hx] at h; exact ih h

/-- what a comprehension's scope must be: own: its own names, fr: the names of the frame that it reads, js: their slots there -/
structure CompSc (sc : Scope) (XN : List Str) (scope : Scope) (own fr : List Str) (js : List Nat) : Prop where
  kind : scope.kind = .function
  cell : ∀ y ∈ scope.names, y.2 ≠ .cell
  loc : ∀ x ∈ scope.names, x.2 = .local → scope.names.lookup x.1 = some .local
  free : ∀ y ∈ scope.names, y.2 = .free → sc.names.lookup y.1 = some .cell ∨ sc.names.lookup y.1 = some .free
  len : fr.length = js.length
  at_ : ∀ p ∈ fr.zip js, XN[p.2]? = some p.1 ∧ scope.names.lookup p.1 = some .free

def compCx (X : Cx) (scope : Scope) (NN : List Str) (fp : List Addr) (pins : List (Addr × Obj)) (s : Shared) (H : Hp) (C : Addr) : Cx where
  prog := X.prog
  w := X.w
  K := X.K
  mg := X.mg
  base := X.base
  A := X.A
  N := NN
  s₀ := s
  H₀ := H
  env := compEnvC scope (clFrom X.env.cells scope.names []) C X.env
  outer := X.stack
  stack := X.stack
  ex := fp
  fn := fun x => ((clFrom X.env.cells scope.names []).lookup x).isNone
  calm := X.calm
  pn := X.pn ++ pins
  xe := fun _ _ => False

/-- the names' values at a turn's begin -/
def cst (own : Nat) (js : List Nat) (σ : St) : St := List.replicate own none ++ js.map fun j => (σ[j]?).join

section
variable {X : Cx} {pins : List (Addr × Obj)} {σ : St} {H : Hp} {s : Shared} {scope : Scope} {own fr : List Str} {js : List Nat} {fp : List Addr} {C : Addr}

theorem clf_nil {cells : List (Str × Addr)} {names : List (Str × NameKind)} {x : Str} {c : Addr} (h : (clFrom cells names []).lookup x = some c) : cells.lookup x = some c :=
  clFrom_sub (fun y d e => by simp at e) h

theorem compOk (I : Inv X pins σ H s) (cs : CompSc X.env.scope X.N scope own fr js) (f2 : ∀ b ∈ fp, FpOk X pins H b) (ho : ∀ b ∈ fp, b < s.heap.objs.size) (hC : s.heap.objs.size ≤ C) :
    (compCx X scope (own ++ fr) fp pins s H C).Ok where
  mod := I.ok.mod
  kind := cs.kind
  glob := I.ok.glob
  blt := I.ok.blt
  above := hC
  inj := fun x y c h1 h2 => I.ok.inj x y c (clf_nil h1) (clf_nil h2)
  has := fun x h => by
    have hx : (x, NameKind.free) ∈ scope.names := by
      rcases h with h | h
      · obtain ⟨k0, e, z⟩ := relabel_of h
        rcases z with z | ⟨z, _⟩
        · subst z; exact absurd rfl (cs.cell _ (lookup_in e))
        · subst z; exact lookup_in e
      · obtain ⟨k0, e, z⟩ := relabel_of h
        rcases z with z | ⟨z, _⟩
        · subst z; exact lookup_in e
        · subst z; exact lookup_in e
    obtain ⟨c, hc⟩ := I.ok.has x (cs.free _ hx rfl)
    exact ⟨c, clFrom_free hx hc⟩
  cab := fun x c h e => by
    have h' : ((clFrom X.env.cells scope.names []).lookup x).isNone = true := h
    have e' : (clFrom X.env.cells scope.names []).lookup x = some c := e
    rw [e'] at h'
    cases h'
  hd := I.ok.hd
  frames := I.ok.frames
  stk := .inl rfl
  exf := fun b hb => ⟨Nat.ne_of_lt (Nat.lt_of_lt_of_le (ho b hb) hC), fun x c e => (f2 b hb).2.2.2.2.1 x c (clf_nil e)⟩
  bs := I.bs
  bsz := Nat.le_trans I.ok.bsz I.sz
  noex := fun b o e hb => by
    rcases (f2 b hb).2.2.2.1 with z | z
    · exact I.ok.noex b o e z
    · exact absurd (Nat.lt_of_lt_of_le (Heap.lt_size e) (Nat.le_trans I.ok.bsz z)) (Nat.lt_irrefl _)
  exfs := fun b hb z => by
    rcases List.mem_cons.mp (I.stkSub b z) with e | e
    · exact (f2 b hb).2.1 e
    · exact (f2 b hb).2.2.1 e
  funs := I.stack
  frf := I.stkFree

/-- whatever the block has stored in its own names: the frame's names still stand -/
theorem compBack (I : Inv X pins σ H s) (cs : CompSc X.env.scope X.N scope own fr js) (f2 : ∀ b ∈ fp, FpOk X pins H b) {pins' : List (Addr × Obj)} {σ' : St} {H' : Hp} {s' : Shared}
    (I' : Inv (compCx X scope (own ++ fr) fp pins s H C) pins' σ' H' s') : Inv (compCx X scope (own ++ fr) fp pins s H C) pins' (cst own.length js σ) H' s' := by
  refine ⟨I'.ok, I'.os, I'.bare, I'.base, ?_, I'.cell, I'.free, I'.freeC, I'.pin, I'.hok, ?_⟩
  · obtain ⟨m, hm, _⟩ := I'.loc
    obtain ⟨m0, hm0, hl0⟩ := I.loc
    refine ⟨m, hm, fun i x v e1 e2 _ => ?_⟩
    have e1' : (own ++ fr)[i]? = some x := e1
    unfold cst at e2
    by_cases hi : i < own.length
    · rw [List.getElem?_append_left (by simpa using hi), List.getElem?_replicate, if_pos hi] at e2
      cases e2
    · have hi' : own.length ≤ i := Nat.le_of_not_lt hi
      rw [List.getElem?_append_right (by simpa using hi'), List.length_replicate, List.getElem?_map] at e2
      rw [List.getElem?_append_right hi'] at e1'
      cases hj : js[i - own.length]? with
      | none => rw [hj] at e2; cases e2
      | some j =>
        rw [hj] at e2
        have e3 : (σ[j]?).join = some v := Option.some.inj e2
        have e4 : σ[j]? = some (some v) := by
          cases q : σ[j]? with
          | none => rw [q] at e3; cases e3
          | some z => rw [q] at e3; cases z with
            | none => cases e3
            | some z' => exact congrArg (fun y => some (some y)) (Option.some.inj e3)
        have hz : (x, j) ∈ fr.zip js := by
          refine List.mem_of_getElem? (i := i - own.length) ?_
          rw [List.getElem?_zip_eq_some]
          exact ⟨e1', hj⟩
        obtain ⟨a1, a2⟩ := cs.at_ _ hz
        have kX := cs.free (x, .free) (lookup_in a2) rfl
        obtain ⟨u, ru, look⟩ := hl0 j x v a1 e4 (kX.elim (fun z => .inr (.inl z)) fun z => .inr (.inr z))
        rcases look with ⟨kl, _⟩ | ⟨_, c, hc, o, hoc, hod⟩
        · have kl' : X.env.scope.names.lookup x = some .local := kl
          dsimp only at kX
          rw [kl'] at kX
          rcases kX with z | z <;> cases z
        · obtain ⟨sl, es⟩ := I'.base.any hoc (I.freeC x c hc) fun z => (f2 c z).2.2.2.2.1 x c hc rfl
          exact ⟨u, ru, .inr ⟨relabel_free a2, c, clFrom_free (lookup_in a2) hc, ⟨_, es, hod⟩⟩⟩
  · show (cst own.length js σ).length = (own ++ fr).length
    unfold cst
    rw [List.length_append, List.length_append, List.length_replicate, List.length_map, cs.len]

theorem compIn (I : Inv X pins σ H s) (cs : CompSc X.env.scope X.N scope own fr js) (f2 : ∀ b ∈ fp, FpOk X pins H b) (ho : ∀ b ∈ fp, b < s.heap.objs.size) (hC : s.heap.objs.size ≤ C) {D : Addr} {oD : Obj} {h1 : Heap} {tk : Nat} {m : Str → Option Value}
    (k : ∀ b o, s.heap.get? b = some o → h1.get? b = some o) (hn : h1.Ns C m) (hDs : s.heap.objs.size ≤ D) (hDC : D ≠ C) (hD : h1.get? D = some oD) (dD : ∀ v, oD.data ≠ .cell v) :
    Inv (compCx X scope (own ++ fr) fp pins s H C) [(D, oD)] (cst own.length js σ) H { s with heap := h1, toks := tk } := by
  refine compBack (σ' := List.replicate (own ++ fr).length none) I cs f2 ?_
  have nstk : ∀ b, s.heap.objs.size ≤ b → b ∉ frs X.stack := fun b hb z => by
    rcases List.mem_cons.mp (I.stkSub b z) with e | e
    · rw [e] at hb; exact absurd (Nat.lt_of_lt_of_le I.lt hb) (Nat.lt_irrefl _)
    · exact I.nofs hb e
  refine ⟨compOk I cs f2 ho hC, rfl, I.bare, Un.kept k, ⟨m, hn, fun i x v e1 e2 _ => ?_⟩, fun x c e => ?_, I.hok.fresh hC, fun x c e => I.freeC x c (clf_nil e), fun p hp => ?_, I.hok.kept k, by simp [compCx]⟩
  · rw [List.getElem?_replicate] at e2
    split at e2 <;> cases e2
  · obtain ⟨v, z⟩ := I.cell x c (clf_nil e)
    exact ⟨v, z.keeps k⟩
  · rcases List.mem_append.mp hp with z | z
    · obtain ⟨a1, a2, a3, a4, a5⟩ := I.pin p z
      refine ⟨k _ _ a1, a2, ?_, ?_, a5⟩
      · exact Nat.ne_of_lt (Nat.lt_of_lt_of_le (Heap.lt_size a1) hC)
      · intro q
        rcases List.mem_cons.mp (I.stkSub _ q) with e | e
        · exact a3 e
        · exact a4 e
    · have e : p = (D, oD) := by simpa using z
      subst e
      exact ⟨hD, I.hok.fresh hDs, hDC, nstk D hDs, dD⟩
end
end L2

namespace L2
open PySem PySem.Spec PyProof.Rows

abbrev noE : Value → Shared → Prop := fun _ _ => False
theorem unE {α : Type} {M : Model} {A : Around} {t : Sem α} {Q : α → Shared → Prop} {E : Value → Shared → Prop} {s : Shared} (h : wpAny M A t Q noE s) : wpAny M A t Q E s :=
  wpAny_mono h (fun _ _ q => q) fun _ _ f => f.elim

/-- the tests of a comprehension -/
abbrev testsOf (ifs : List Expr) (env : Env) : Sem Bool := forIn ifs true fun c r => if r = true then do let ok ← isTrue c env (eval c env); pure (ForInStep.yield ok) else pure (ForInStep.yield r)

theorem comp_loop_go {prog : Program} {w : World} {A : Around} {R : Result → Shared → Prop} {s : Shared} {elt target iter : Expr} {ifs : List Expr} {scope : Scope} {pos : Pos} {it acc : Value} {env : Env} (Iv : Nat → Shared → Prop)
    (turn : ∀ n s, Iv n s → wpAny (model prog w) A (pyNext it) (fun r s₁ => match r with
      | none => R (.ok .next) s₁
      | some v => wpAny (model prog w) A (letOwnedTupleGo target it v) (fun _ s₂ => wpAny (model prog w) A (assign target env v) (fun _ s₃ =>
          wpAny (model prog w) A (testsOf ifs env) (fun ok s₄ =>
            if ok = true then wpAny (model prog w) A (eval elt env) (fun x s₅ =>
              wpAny (model prog w) A (call (.builtin "list.append") [acc, x]) (fun _ s₆ => ∃ m, m < n ∧ Iv m s₆) noE s₅) noE s₄
            else ∃ m, m < n ∧ Iv m s₄) noE s₃) noE s₂) noE s₁) noE s)
    (n : Nat) (h : Iv n s) : codeAny (model prog w) A (.compLoop (.ListComp elt [⟨target, iter, ifs, 0⟩] scope pos) 0 it acc env) R s := by
  refine codeAny_loop rfl Iv (fun n s hI => ?_) n h
  show wpAny _ A ((compTurn (.ListComp elt [⟨target, iter, ifs, 0⟩] scope pos) 0 it acc env).onRaise (fun x => do noteFrame x env; theTreesLotGoes x)) _ _ s
  refine wpAny_noted ?_
  rw [compTurn_list]
  refine wpAny_bind (wpAny_standAt (wpAny_bind (thn (unE (turn n s hI)) fun r s₁ h₁ => ?_)))
  cases r with
  | none => exact wpAny_pure h₁
  | some v =>
    refine wpAny_bind (thn (unE h₁) fun _ s₂ h₂ => ?_)
    refine wpAny_bind (thn (unE h₂) fun _ s₃ h₃ => wpAny_bind (thn (unE h₃) fun ok s₄ h₄ => ?_))
    cases ok with
    | false => exact wpAny_pure ⟨rfl, h₄⟩
    | true =>
      exact wpAny_bind (wpAny_bind (thn (unE h₄) fun x s₅ h₅ => wpAny_bind (thn (unE h₅) fun _ s₆ h₆ => wpAny_pure (wpAny_pure ⟨rfl, h₆⟩))))

/-- the tests' reading -/
def PTs (X : Cx) (ifs : List Expr) (t : TT) : Prop :=
  ∀ (pins : List (Addr × Obj)) (s : Shared) (σ : St) (H : Hp) (Q : Bool → Hp → Prop), Inv X pins σ H s → t σ H Q → wpAny (model X.prog X.w) X.A (testsOf ifs X.env) (TP X pins σ Q) X.xe s
def tYes : TT := fun _ H Q => Q true H
theorem pts_nil {X : Cx} : PTs X [] tYes := fun _ _ _ H _ I h => wpAny_pure ⟨H, I, h⟩
def compRd (own : Nat) (js : List Nat) (g : TG) (tt : TT) (te : TE) (σ : St) (J : It) (H1 : Hp) (Qf : List V → Hp → Prop) : Prop :=
  ∃ W : Nat → Nat → List V → Hp → Prop, (∃ m, W 0 m [] H1) ∧ ∀ i m ys H, W i m ys H → (J.stop i H ∧ Qf ys H) ∨ (J.go i H ∧ ys.length < sizeLine ∧ ∃ N : List V → Hp → Prop, (∀ ys' H', N ys' H' → ∃ m', m' < m ∧ W (i + 1) m' ys' H') ∧
    ∀ x H', J.yld i H x H' → g x (cst own js σ) H' fun σ2 H2 => tt σ2 H2 fun b H3 => if b = true then te σ2 H3 fun y H4 => N (ys ++ [y]) H4 else N ys H3)

section
variable {X : Cx} {pins : List (Addr × Obj)} {σ : St} {H : Hp} {s : Shared} {scope : Scope} {own fr : List Str} {js : List Nat}

theorem comp_run {elt tg iter : Expr} {ifs : List Expr} {pos : Pos} {g : TG} {tt : TT} {te : TE} {J : It} {fp : List Addr} {it : Addr} {tn : Nat → Heap → Prop} {Qf : List V → Hp → Prop} {RR : Value → Addr → Result → Shared → Prop}
    (hc : X.calm = true) (I : Inv X pins σ H s) (cs : CompSc X.env.scope X.N scope own fr js) (T : Turn X.prog X.w X.K tg J fp it tn) (st : tn 0 s.heap) (f2 : ∀ b ∈ fp, FpOk X pins H b)
    (hg : ∀ C, PG (compCx X scope (own ++ fr) fp pins s H C) tg g) (ht : ∀ C, PTs (compCx X scope (own ++ fr) fp pins s H C) ifs tt) (he : ∀ C, PE (compCx X scope (own ++ fr) fp pins s H C) elt te)
    (rd : compRd own.length js g tt te σ J H Qf)
    (hRR : ∀ D C s' H' ys (its : List Value) (n : Nat), s.heap.objs.size ≤ D → s.heap.objs.size ≤ C → D ≠ C → Inv (compCx X scope (own ++ fr) fp pins s H C) [(D, { cls := .type "list", data := .seq its.toArray n })] (cst own.length js σ) H' s' →
      Vals ys its → ys.length ≤ sizeLine → Qf ys H' → RR (.ref D) C (.ok .next) s') :
    wpAny (model X.prog X.w) X.A (newList []) (fun acc s₃ => wpAny (model X.prog X.w) X.A (newFunctionEnv scope X.env.globals (clFrom X.env.cells scope.names []) [] X.env.qual none .none (some X.env)) (fun cenv s₄ =>
      codeAny (model X.prog X.w) X.A (.compStart (.ListComp elt [⟨tg, iter, ifs, 0⟩] scope pos) 0 (.ref it) acc { cenv with scope := relabel scope X.env }) (RR acc cenv.locals) s₄) X.xe s₃) X.xe s := by
  obtain ⟨W, ⟨m0, w0⟩, turn⟩ := rd
  have ho : ∀ b ∈ fp, b < s.heap.objs.size := fun b hb => by
    obtain ⟨o, e, _⟩ := T.obj _ _ st b hb
    exact Heap.lt_size e
  refine wpAny_newObj_type (wpAny_newFunctionEnv (fun y hy => cs.cell y hy) (by intro y hy; simp at hy) (fun h₁ hns₁ hsb₁ => ?_) cs.kind)
  dsimp only at hns₁ hsb₁ ⊢
  generalize hH2 : s.heap.push { cls := .type "list", dict := none, data := .seq ([] : List Value).toArray } = H2 at hns₁ hsb₁ ⊢
  have hC : H2.objs.size = s.heap.objs.size + 1 := by rw [← hH2, Heap.size_push]
  have hDC : s.heap.objs.size ≠ H2.objs.size := by rw [hC]; exact Nat.ne_of_lt (Nat.lt_succ_self _)
  have hCle : s.heap.objs.size ≤ H2.objs.size := by rw [hC]; exact Nat.le_succ _
  have old : ∀ b o, s.heap.get? b = some o → h₁.get? b = some o := fun b o e => hsb₁.extBut b o (by rw [hC]; exact Nat.ne_of_lt (Nat.lt_succ_of_lt (Heap.lt_size e))) (Heap.get?_push_of_some _ (hH2 ▸ Heap.get?_push_of_some _ e))
  have hacc : h₁.get? s.heap.objs.size = some { cls := .type "list", data := .seq ([] : List Value).toArray } := hsb₁.extBut _ _ hDC (Heap.get?_push_of_some _ (hH2 ▸ Heap.get?_push_size _ rfl))
  have stat : ∀ {H' : Hp} {oD : Obj}, (∀ b ∈ fp, H' b = none) → ∀ b ∈ fp, FpOk (compCx X scope (own ++ fr) fp pins s H H2.objs.size) [(s.heap.objs.size, oD)] H' b := fun {H' oD} hn b hb => by
    obtain ⟨f0, f1, f3, f4, f5, f6⟩ := f2 b hb
    refine ⟨hn b hb, Nat.ne_of_lt (Nat.lt_of_lt_of_le (ho b hb) hCle), fun z => ?_, .inl hb, fun x c e => f5 x c (clf_nil e), fun p hp => ?_⟩
    · rcases List.mem_cons.mp (I.stkSub b z) with e | e
      · exact f1 e
      · exact f3 e
    · rcases List.mem_append.mp hp with z | z
      · exact f6 p z
      · have e : p = (s.heap.objs.size, oD) := by simpa using z
        subst e
        exact Nat.ne_of_gt (ho b hb)
  have loop : ∀ s₃ : Shared, s₃ = { s with heap := h₁, toks := s.toks + ([] : List (Str × Value)).length } →
      codeAny (model X.prog X.w) X.A (.compLoop (.ListComp elt [⟨tg, iter, ifs, 0⟩] scope pos) 0 (.ref it) (.ref s.heap.objs.size) (compEnvC scope (clFrom X.env.cells scope.names []) H2.objs.size X.env))
        (RR (.ref s.heap.objs.size) H2.objs.size) s₃ := by
    rintro s₃ rfl
    refine comp_loop_go (fun n s' => ∃ i ys H' its nn, Inv (compCx X scope (own ++ fr) fp pins s H H2.objs.size) [(s.heap.objs.size, { cls := .type "list", data := .seq (its : List Value).toArray nn })] (cst own.length js σ) H' s' ∧
      Vals ys its ∧ ys.length ≤ sizeLine ∧ tn i s'.heap ∧ (∀ b ∈ fp, H' b = none) ∧ W i n ys H') ?_ m0
      ⟨0, [], H, [], 0, compIn I cs f2 ho hCle old hns₁ (Nat.le_refl _) hDC hacc (fun v z => by cases z), .nil, Nat.zero_le _, T.keep _ _ _ st fun b _ o e => old b o e, fun b hb => (f2 b hb).1, w0⟩
    rintro n s5 ⟨i, ys, H5, its, nn, I5, rv, hz, st5, fr5, w5⟩
    rcases turn i n ys H5 w5 with ⟨stop, q⟩ | ⟨go, hlt, N, hN, step⟩
    · refine thn (T.done (compCx X scope (own ++ fr) fp pins s H H2.objs.size) rfl rfl rfl hc i _ s5 _ H5 noE I5 (stat fr5) st5 stop) fun r s6 ⟨hr, I6⟩ => ?_
      subst hr
      exact hRR _ _ s6 H5 ys its nn (Nat.le_refl _) hCle hDC I6 rv hz q
    · refine thn (T.item (compCx X scope (own ++ fr) fp pins s H H2.objs.size) rfl rfl rfl hc i _ s5 _ H5 noE I5 (stat fr5) st5 go) fun r s6 ⟨u, hr, h6⟩ => ?_
      subst hr
      refine thn h6 fun _ s7 ⟨x, H7, I7, r7, y7, st7, fr7⟩ => ?_
      have I7' := I7.pinned (stat fr7) (T.obj _ _ st7)
      refine thn (hg _ _ s7 _ H7 x u _ I7' r7 (step x H7 y7)) fun _ s8 ⟨σ8, H8, I8, q8⟩ => ?_
      refine thn (ht _ _ s8 σ8 H8 _ I8 q8) fun ok s9 ⟨H9, I9, q9⟩ => ?_
      have kfp : ∀ {σ' : St} {H' : Hp} {s' : Shared}, Inv (compCx X scope (own ++ fr) fp pins s H H2.objs.size) ([(s.heap.objs.size, { cls := .type "list", data := .seq its.toArray nn })] ++ pinsAt fp s7.heap) σ' H' s' →
          (∀ b ∈ fp, ∀ o, s7.heap.get? b = some o → s'.heap.get? b = some o) ∧ ∀ b ∈ fp, H' b = none := fun {σ' H' s'} I' => by
        refine ⟨fun b hb o e => (I'.pin (b, o) (List.mem_append_right _ (List.mem_append_right _ (mem_pinsAt hb e)))).1, fun b hb => ?_⟩
        obtain ⟨o, e, d⟩ := T.obj _ _ st7 b hb
        exact (I'.pin (b, o) (List.mem_append_right _ (List.mem_append_right _ (mem_pinsAt hb e)))).2.1
      cases ok with
      | false =>
        obtain ⟨m', hm, w9⟩ := hN _ _ (show N ys H9 from q9)
        exact ⟨m', hm, i + 1, ys, H9, its, nn, compBack I cs f2 I9.unpinned, rv, hz, T.keep _ _ _ st7 (kfp I9).1, (kfp I9).2, w9⟩
      | true =>
        refine thn (he _ _ s9 σ8 H9 _ I9 q9) fun yv s10 ⟨y, H10, I10, r10, q10⟩ => ?_
        have pD := I10.pin (s.heap.objs.size, { cls := .type "list", data := .seq its.toArray nn }) (List.mem_append_right _ (List.mem_append_left _ (List.mem_singleton.mpr rfl)))
        have e1 : s10.heap.get? s.heap.objs.size = some { cls := .type "list", data := .seq its.toArray nn } := pD.1
        have hlen := rv.length
        refine call_meets F.slot_list_append ⟨_, e1, rfl⟩ F.entry_list_append (F.args_list_append_2 _ _) (PySem.list_append s.heap.objs.size its.toArray nn yv (by rw [List.size_toArray]; omega)) ⟨e1, ?_⟩
        obtain ⟨m', hm, w10⟩ := hN _ _ q10
        have e2 := PySem.IsL.update (h := s10.heap) (l := s.heap.objs.size) e1 (fun z => z.push yv)
        have e3 : its.toArray.push yv = (its ++ [yv]).toArray := by simp
        rw [e3] at e2
        obtain ⟨nn', e2'⟩ : ∃ n', (s10.heap.update s.heap.objs.size (Obj.mapSeq fun z => z.push yv)).get? s.heap.objs.size = some { cls := .type "list", data := .seq (its ++ [yv]).toArray n' } := ⟨_, e2⟩
        have I11 := (compBack I cs f2 I10).pins_of (pins' := []) (fun p hp => nomatch hp)
        have I12 := I11.turned (t' := s10.toks) (it := s.heap.objs.size) (h' := s10.heap.update s.heap.objs.size (Obj.mapSeq fun z => z.push yv)) (fun b o hb e => (Heap.get?_update_other s10.heap _ (Ne.symm hb)).trans e)
          pD.2.1 pD.2.2.1 (.inr (Nat.le_refl _)) (fun x c e => by
            obtain ⟨v, z⟩ := I.cell x c (clf_nil e)
            exact Nat.ne_of_lt z.lt) (fun p hp => by
            have hp' : p ∈ X.pn ++ pins := by simpa [compCx] using hp
            exact Nat.ne_of_lt (Heap.lt_size (I.pin p hp').1))
        refine ⟨m', hm, i + 1, ys ++ [y], H10, its ++ [yv], nn', I12.pins_of fun p hp => ?_, rv.append (.cons r10 .nil), ?_, T.keep _ _ _ st7 fun b hb o e => ?_, (kfp I10).2, w10⟩
        · have e := List.mem_singleton.mp hp
          subst e
          exact ⟨e2', pD.2.1, pD.2.2.1, pD.2.2.2.1, fun v z => by cases z⟩
        · rw [List.length_append, List.length_singleton]; omega
        · exact (Heap.get?_update_other s10.heap _ (Nat.ne_of_gt (ho b hb))).trans ((kfp I10).1 b hb o e)
  exact codeAny_compStart_list (loop _ rfl) (T.self _ 0 _ _ _ (T.keep _ _ _ st fun b _ o e => old b o e) (loop _ rfl))
end

/-- an object that stands in the heap, younger than the entry, is tracked from here on -/
theorem Inv.track {X : Cx} {pins : List (Addr × Obj)} {σ : St} {H : Hp} {s : Shared} {a : Addr} {o : HO} (I : Inv X pins σ H s) (hn : H a = none) (ha : X.s₀.heap.objs.size ≤ a) (hL : a ≠ X.env.locals) (hcl : ∀ x c, X.env.cells.lookup x = some c → c ≠ a)
    (hp : ∀ p ∈ X.pn ++ pins, p.1 ≠ a) (new : ObjOk X.prog X.w (upd H a o) s.heap a o) : Inv X pins σ (upd H a o) s := by
  have nn : ∀ b u, H b = some u → b ≠ a := fun b u e z => by rw [z, hn] at e; cases e
  refine ⟨I.ok, I.os, I.bare, ⟨I.base.keep, I.base.slot, fun b ob e n hx => ?_, I.base.there, fun b xs e => ?_, fun b ob u e => ?_, fun b ps e => ?_⟩, I.loc, I.cell, ?_, fun x c e => ?_, fun p h => ?_, fun b u e => ?_, I.len⟩
  · rw [upd_ne (Nat.ne_of_lt (Nat.lt_of_lt_of_le (Heap.lt_size e) ha))]
    exact I.base.free b ob e n hx
  · have := I.base.tups b xs e
    rw [upd_ne (nn b _ this)]; exact this
  · have := I.base.frzs b ob u e
    rw [upd_ne (nn b _ this)]; exact this
  · obtain ⟨more, q⟩ := I.base.tbls b ps e
    exact ⟨more, by rw [upd_ne (nn b _ q)]; exact q⟩
  · rw [upd_ne (Ne.symm hL)]; exact I.free
  · rw [upd_ne (hcl x c e)]; exact I.freeC x c e
  · obtain ⟨a1, a2, a3, a4, a5⟩ := I.pin p h
    exact ⟨a1, by rw [upd_ne (hp p h)]; exact a2, a3, a4, a5⟩
  · by_cases hb : b = a
    · subst hb; rw [upd_same] at e; cases e; exact new
    · rw [upd_ne hb] at e
      exact (I.hok b u e).stay (fun c v _ q => q) (fun c q => by rw [upd_ne (nn c _ q)]; exact q) fun c xs q => by rw [upd_ne (nn c _ q)]; exact q

section
variable {X : Cx} {pins : List (Addr × Obj)} {σ : St} {H H' : Hp} {s s' : Shared} {scope : Scope} {own fr : List Str} {js : List Nat} {fp : List Addr} {C D : Addr}
/-- behind the block -/
theorem compOut {ys : List V} {its : List Value} {n : Nat} (I : Inv X pins σ H s) (f2 : ∀ b ∈ fp, FpOk X pins H b) (hD : s.heap.objs.size ≤ D) (I' : Inv (compCx X scope (own ++ fr) fp pins s H C) [(D, { cls := .type "list", data := .seq its.toArray n })] (cst own.length js σ) H' s')
    (rv : Vals ys its) (hz : ys.length ≤ sizeLine) : Inv X pins σ (upd H' D (.lst ys)) s' ∧ H' D = none := by
  have pD := I'.pin (D, { cls := .type "list", data := .seq its.toArray n }) (List.mem_append_right _ (List.mem_singleton.mpr rfl))
  have I1 : Inv X pins σ H' s' := I.call' I'.os I'.base I'.hok I'.bare fun b hb => ⟨(f2 b hb).2.2.2.1, (f2 b hb).2.1, (f2 b hb).2.2.2.2.1, (f2 b hb).2.2.2.2.2⟩
  refine ⟨I1.track pD.2.1 (Nat.le_trans I.sz hD) (Nat.ne_of_gt (Nat.lt_of_lt_of_le I.lt hD)) (fun x c e => ?_) (fun p hp => ?_) ⟨hz, its, n, rv, pD.1⟩, pD.2.1⟩
  · obtain ⟨v, z⟩ := I.cell x c e
    exact Nat.ne_of_lt (Nat.lt_of_lt_of_le z.lt hD)
  · exact Nat.ne_of_lt (Nat.lt_of_lt_of_le (Heap.lt_size (I.pin p hp).1) hD)
/-- the block's dict goes -/
theorem compGo {pins0 : List (Addr × Obj)} {σ0 σ1 : St} {H0 H1 : Hp} {h' : Heap} (I0 : Inv X pins0 σ0 H0 s) (I : Inv X pins0 σ1 H1 s') (hC : s.heap.objs.size ≤ C) (hn : H1 C = none) (hs : Heap.SameBut C s'.heap h') : Inv X pins0 σ1 H1 { s' with heap := h' } := by
  refine I.turned (t' := s'.toks) (it := C) (fun b o hb e => (hs.2 b hb).trans e) hn (Nat.ne_of_gt (Nat.lt_of_lt_of_le I0.lt hC)) (.inr (Nat.le_trans I0.sz hC)) (fun x c e => ?_) (fun p hp => ?_)
  · obtain ⟨v, z⟩ := I0.cell x c e
    exact Nat.ne_of_lt (Nat.lt_of_lt_of_le z.lt hC)
  · exact Nat.ne_of_lt (Nat.lt_of_lt_of_le (Heap.lt_size (I0.pin p hp).1) hC)
end

/-- [elt for tg in iter if ..] -/
def tComp (own : Nat) (js : List Nat) (wi : TI) (g : TG) (tt : TT) (te : TE) : TE := fun σ H Q => wi σ H fun J H1 => compRd own js g tt te σ J H1 fun ys H2 => ∀ D, H2 D = none → Q (.ref D) (upd H2 D (.lst ys))
/-- name = [..] -/
def sComp (i : Nat) (own : Nat) (js : List Nat) (wi : TI) (g : TG) (tt : TT) (te : TE) : TS := fun E σ H => wi σ H fun J H1 => compRd own js g tt te σ J H1 fun ys H2 => ∀ D, H2 D = none → E.nx (σ.set i (some (.ref D))) (upd H2 D (.lst ys))

section
variable {X : Cx} {scope : Scope} {own fr : List Str} {js : List Nat} {elt tg iter : Expr} {ifs : List Expr} {pos : Pos} {wi : TI} {g : TG} {tt : TT} {te : TE}
theorem pe_comp {sc : Scope} {XN : List Str} (hsc : X.env.scope = sc) (hXN : X.N = XN) (hc : X.calm = true) (cs : CompSc sc XN scope own fr js) (hi : PI X tg iter wi) (hg : ∀ fp pins s H C, PG (compCx X scope (own ++ fr) fp pins s H C) tg g)
    (ht : ∀ fp pins s H C, PTs (compCx X scope (own ++ fr) fp pins s H C) ifs tt) (he : ∀ fp pins s H C, PE (compCx X scope (own ++ fr) fp pins s H C) elt te)
    (hs : ∀ x, foldedSetIterable iter X.env x = pure x := by intro _; rfl) : PE X (.ListComp elt [⟨tg, iter, ifs, 0⟩] scope pos) (tComp own.length js wi g tt te) := by
  subst hsc hXN
  intro pins s σ H Q I h
  rw [eval_ListComp]
  refine wpAny_comprehension_free (use := none) rfl hs (closureFor_clFrom fun y hy e => I.ok.has y.1 (cs.free y hy e)) cs.kind cs.loc (thn (hi pins s σ H _ I h) fun v s1 h1 => thn h1 fun itv s2 h2 => ?_)
  obtain ⟨it, fp, tn, J, H2, e, I2, T, st2, f2, rd⟩ := h2
  subst e
  refine comp_run (RR := fun acc C => compPost (model X.prog X.w) X.A X.xe none (EP X pins σ Q) acc C) hc I2 cs T st2 f2 (fun C => hg _ _ _ _ C) (fun C => ht _ _ _ _ C) (fun C => he _ _ _ _ C) rd ?_
  intro D C s' H' ys its n hD hC hDC I' rv hz q
  obtain ⟨m, hm, _⟩ := I'.loc
  obtain ⟨I3, hn3⟩ := compOut I2 f2 hD I' rv hz
  refine ⟨m, hm, fun h' hs' => ⟨.ref D, _, compGo I2 I3 hC ?_ hs', rfl, q D hn3⟩⟩
  rw [upd_ne (Ne.symm hDC)]
  exact I'.free
theorem ps_comp {i : Nat} {y : Str} {py spos : Pos} (hN : X.N.Nodup) (hi' : X.N[i]? = some y) (hy : X.env.scope.names.lookup y = some .local) (hsw : swapsWith (.ListComp elt [⟨tg, iter, ifs, 0⟩] scope pos) (some (.Name y py)) spos.line X.env = pure true)
    {sc : Scope} {XN : List Str} (hsc : X.env.scope = sc) (hXN : X.N = XN) (hc : X.calm = true) (cs : CompSc sc XN scope own fr js) (hi : PI X tg iter wi) (hg : ∀ fp pins s H C, PG (compCx X scope (own ++ fr) fp pins s H C) tg g)
    (ht : ∀ fp pins s H C, PTs (compCx X scope (own ++ fr) fp pins s H C) ifs tt) (he : ∀ fp pins s H C, PE (compCx X scope (own ++ fr) fp pins s H C) elt te)
    (hs : ∀ x, foldedSetIterable iter X.env x = pure x := by intro _; rfl) : PS X (.Assign [.Name y py] (.ListComp elt [⟨tg, iter, ifs, 0⟩] scope pos) spos) (sComp i own.length js wi g tt te) := by
  subst hsc hXN
  intro pins s σ H E I h
  rw [exec_Assign_Name_used _ _ _ _ hsw]
  refine wpAny_bind (wpAny_standAt (wpAny_bind ?_))
  show wpAny _ X.A (do let _ ← comprehension (.ListComp elt [⟨tg, iter, ifs, 0⟩] scope pos) scope X.env _ (newList []) false (eval iter X.env) (some (assign (.Name y py) X.env))) _ _ s
  refine wpAny_bind (wpAny_mono (wpAny_comprehension_free (use := some (assign (.Name y py) X.env)) (Q := fun _ s' => SP X pins E .next s') rfl hs (closureFor_clFrom fun y hy e => I.ok.has y.1 (cs.free y hy e)) cs.kind cs.loc
    (thn (hi pins s σ H _ I h) fun v s1 h1 => thn h1 fun itv s2 h2 => ?_)) (fun _ s' hq => wpAny_pure (wpAny_pure hq)) fun _ _ e => e)
  obtain ⟨it, fp, tn, J, H2, e, I2, T, st2, f2, rd⟩ := h2
  subst e
  refine comp_run (RR := fun acc C => compPost (model X.prog X.w) X.A X.xe (some (assign (.Name y py) X.env)) (fun _ s' => SP X pins E .next s') acc C) hc I2 cs T st2 f2 (fun C => hg _ _ _ _ C) (fun C => ht _ _ _ _ C) (fun C => he _ _ _ _ C) rd ?_
  intro D C s' H' ys its n hD hC hDC I' rv hz q
  obtain ⟨m, hm, _⟩ := I'.loc
  obtain ⟨I3, hn3⟩ := compOut I2 f2 hD I' rv hz
  show wpAny _ X.A (assign (.Name y py) X.env (.ref D)) _ _ _
  refine wpAny_assign_Name (store_ok2 I3 hN hi' (.inl hy) (v := .ref D) rfl (fun s4 I4 hsb => ?_) (.inr hy))
  obtain ⟨a, sb, ha⟩ := hsb
  have hCa : C ≠ a := by
    rcases ha with z | z
    · rw [z]; exact Nat.ne_of_gt (Nat.lt_of_lt_of_le I2.lt hC)
    · obtain ⟨v, q⟩ := I2.cell y a z
      exact Nat.ne_of_gt (Nat.lt_of_lt_of_le q.lt hC)
  have hm' : s'.heap.Ns C m := hm
  refine ⟨m, hm'.sameBut sb hCa, fun h' hs' => ⟨_, _, compGo I2 I4 hC ?_ hs', q D hn3⟩⟩
  rw [upd_ne (Ne.symm hDC)]
  exact I'.free
end

/-! ### the forms one uses -/
/-- what is to be shown of a comprehension, whatever it walks: n turns, the invariant Pv over the turn, the list so far and the heap -/
theorem comp_by {J : It} {n : Nat} {own : Nat} {js : List Nat} {g : TG} {tt : TT} {te : TE} {σ : St} {H : Hp} {Qf : List V → Hp → Prop} (Pv : Nat → List V → Hp → Prop) (h0 : Pv 0 [] H) (hz : n ≤ 1000)
    (hlen : ∀ i ys H2, Pv i ys H2 → ys.length ≤ i) (hgo : ∀ i ys H2, i < n → Pv i ys H2 → J.go i H2) (hstop : ∀ ys H2, Pv n ys H2 → J.stop n H2 ∧ Qf ys H2)
    (hs : ∀ i ys H2 x H3, i < n → Pv i ys H2 → J.yld i H2 x H3 → g x (cst own js σ) H3 fun σ3 H4 => tt σ3 H4 fun b H5 => if b = true then te σ3 H5 fun y H6 => Pv (i + 1) (ys ++ [y]) H6 else Pv (i + 1) ys H5) :
    compRd own js g tt te σ J H Qf := by
  refine ⟨fun i m ys H2 => m = n - i ∧ i ≤ n ∧ Pv i ys H2, ⟨n, by simp, Nat.zero_le _, h0⟩, ?_⟩
  rintro i m ys H2 ⟨rfl, hi, p⟩
  by_cases hlt : i < n
  · refine .inr ⟨hgo i ys H2 hlt p, ?_, Pv (i + 1), fun ys' H3 p' => ⟨n - (i + 1), by omega, rfl, hlt, p'⟩, fun x H3 y => hs i ys H2 x H3 hlt p y⟩
    have := hlen i ys H2 p
    exact Nat.lt_of_le_of_lt (show ys.length ≤ 1000 by omega) (by decide)
  · have e : i = n := by omega
    subst e
    exact .inl (hstop ys H2 p)
theorem fm_len {f : Nat → Option V} (i : Nat) : ((List.range i).filterMap f).length ≤ i := by
  refine Nat.le_trans (List.length_filterMap_le _ _) ?_
  rw [List.length_range]
  exact Nat.le_refl _
theorem fm_succ {f : Nat → Option V} (i : Nat) : (List.range (i + 1)).filterMap f = (List.range i).filterMap f ++ (f i).toList := by
  rw [List.range_succ, List.filterMap_append]
  congr 1
/-- only new things come; turn i gives f i -/
theorem comp_pure {J : It} {n : Nat} {own : Nat} {js : List Nat} {g : TG} {tt : TT} {te : TE} {σ : St} {H : Hp} {Qf : List V → Hp → Prop} (f : Nat → Option V) (hz : n ≤ 1000)
    (hgo : ∀ i H2, i < n → Same H H2 → J.go i H2) (hstop : ∀ H2, Same H H2 → J.stop n H2) (hd : ∀ H', Same H H' → Qf ((List.range n).filterMap f) H')
    (hs : ∀ i ys H2 x H3 (N : List V → Hp → Prop), i < n → Same H H2 → J.yld i H2 x H3 → (∀ H4, Same H H4 → N (ys ++ (f i).toList) H4) →
      g x (cst own js σ) H3 fun σ3 H4 => tt σ3 H4 fun b H5 => if b = true then te σ3 H5 fun y H6 => N (ys ++ [y]) H6 else N ys H5) :
    compRd own js g tt te σ J H Qf := by
  refine comp_by (n := n) (fun i ys H2 => Same H H2 ∧ ys = (List.range i).filterMap f) ⟨Same.refl H, rfl⟩ hz (fun i ys H2 ⟨_, e⟩ => by rw [e]; exact fm_len i) (fun i ys H2 hi ⟨sm, _⟩ => hgo i H2 hi sm)
    (fun ys H2 ⟨sm, e⟩ => ⟨hstop H2 sm, by rw [e]; exact hd H2 sm⟩) ?_
  rintro i ys H2 x H3 hi ⟨sm, rfl⟩ y
  refine hs i _ H2 x H3 (fun ys' H' => Same H H' ∧ ys' = (List.range (i + 1)).filterMap f) hi sm y fun H4 s4 => ⟨s4, ?_⟩
  rw [fm_succ]
/-- over a list -/
theorem comp_list {K : PySem.W.Frag} {a : Addr} {xs : List V} {own : Nat} {js : List Nat} {g : TG} {tt : TT} {te : TE} {σ : St} {H : Hp} {Qf : List V → Hp → Prop} (f : Nat → Option V) (hl : SqL K H a xs) (hz : xs.length ≤ 1000)
    (hd : ∀ H', Same H H' → Qf ((List.range xs.length).filterMap f) H')
    (hs : ∀ (i : Nat) ys H2 x (N : List V → Hp → Prop), xs[i]? = some x → Same H H2 → (∀ H4, Same H H4 → N (ys ++ (f i).toList) H4) →
      g x (cst own js σ) H2 fun σ3 H4 => tt σ3 H4 fun b H5 => if b = true then te σ3 H5 fun y H6 => N (ys ++ [y]) H6 else N ys H5) : compRd own js g tt te σ (Itl K a) H Qf := by
  refine comp_pure f hz (fun i H2 hi sm => ⟨xs, xs[i], sm.seq hl, by simp [hi]⟩) (fun H2 sm => ⟨xs, sm.seq hl, Nat.le_refl _⟩) hd ?_
  intro i ys H2 x H3 N hi sm y hN
  obtain ⟨e, y⟩ := y
  subst e
  exact hs i ys _ x N (y xs (sm.seq hl)) sm hN
theorem comp_range {lo : Int} {n : Nat} {own : Nat} {js : List Nat} {g : TG} {tt : TT} {te : TE} {σ : St} {H : Hp} {Qf : List V → Hp → Prop} (f : Nat → Option V) (hz : n ≤ 1000)
    (hd : ∀ H', Same H H' → Qf ((List.range n).filterMap f) H')
    (hs : ∀ (i : Nat) ys H2 (N : List V → Hp → Prop), i < n → Same H H2 → (∀ H4, Same H H4 → N (ys ++ (f i).toList) H4) →
      g (.int (lo + i)) (cst own js σ) H2 fun σ3 H4 => tt σ3 H4 fun b H5 => if b = true then te σ3 H5 fun y H6 => N (ys ++ [y]) H6 else N ys H5) : compRd own js g tt te σ (Itr lo n) H Qf := by
  refine comp_pure f hz (fun i H2 hi sm => hi) (fun H2 sm => Nat.le_refl n) hd ?_
  intro i ys H2 x H3 N hi sm y hN
  obtain ⟨e, y⟩ := y
  subst e y
  exact hs i ys _ N hi sm hN
end L2

namespace L2
open PySem PySem.Spec PyProof.Rows

/-! ### enumerate(list), zip(list, list), unpacked on the spot -/
section
variable {X : Cx} {elts : List Expr} {x1 : Nat} {tpos : Pos}
end

theorem Same.upd {H H' : Hp} {p : Addr} {o : HO} (e : Same H H') (h : H' p = none) : Same H (upd H' p o) := fun b u q => by
  have := e b u q
  rw [upd_ne (ne_of_none this h)]; exact this
end L2

namespace L2
open PySem PySem.Spec PyProof.Rows

theorem vals_bl : ∀ {bs : List Bool} {us : List Value}, Vals (bs.map V.bl) us → us = bs.map Value.bool
  | [], _, .nil => rfl
  | b :: bs, _, .cons r t => by
    have e := vals_bl t
    cases r
    rw [e]; rfl
theorem range_all_getD (bs : List Bool) : (List.range bs.length).all (fun i => (bs[i]?).getD true) = bs.all id := by
  rw [Bool.eq_iff_iff, List.all_eq_true, List.all_eq_true]
  constructor
  · intro h b hb
    obtain ⟨i, hi, e⟩ := List.mem_iff_getElem.mp hb
    have := h i (List.mem_range.mpr hi)
    rw [List.getElem?_eq_getElem hi] at this
    rw [← e]; exact this
  · intro h i hi
    have hi' := List.mem_range.mp hi
    rw [List.getElem?_eq_getElem hi']
    exact h _ (List.getElem_mem hi')
section
variable {X : Cx}
theorem call_all_bl (hc : X.calm = true) : CallR X (.builtin "all") (fun xs H Q => ∃ (p : Addr) (bs : List Bool), xs = [.ref p] ∧ SqL X.K H p (bs.map V.bl) ∧ Q (.bl (bs.all id)) H) := by
  intro pins s σ H xs us Q I rv h
  obtain ⟨p, bs, rfl, hq, q⟩ := h
  obtain ⟨u, rfl, ru⟩ := rv.one
  cases ru
  obtain ⟨its, rv', pl, hz⟩ := I.list hq
  have ei := vals_bl rv'
  subst ei
  have hlt : p < s.heap.objs.size := by obtain ⟨o, n, e, _⟩ := pl; exact Heap.lt_size e
  refine call_all_walk (wpAny_pyIter_list pl.isList ?_)
  refine ⟨s.heap.objs.size, _, _, _, _, _, fun i => (bs[i]?).getD true, rfl, Walks.list (A := X.A.in1) (I.ok.hd hc) _ p (Nat.ne_of_lt hlt) _, ⟨⟨_, Heap.get?_push_size _ rfl, rfl, rfl⟩, pl.isList.push _⟩, ?_, fun h' tk hk => ?_⟩
  · intro i v s' Q' E' hv hQ
    have hv' : (bs.map Value.bool)[i]? = some v := by simpa using hv
    rw [List.getElem?_map] at hv'
    cases e : bs[i]? with
    | none => rw [e] at hv'; cases hv'
    | some b =>
      rw [e] at hv'
      have : Value.bool b = v := Option.some.inj hv'
      subst this
      refine wpAny_truthy_bool ?_
      dsimp only at hQ
      rw [e] at hQ
      exact hQ
  · refine ⟨.bl _, H, I.kept (t' := tk) fun b o e => hk b o (fun z => ?_) (Heap.get?_push_of_some _ e), rfl, ?_⟩
    · have : b = s.heap.objs.size := by simpa using z
      exact absurd (Heap.lt_size e) (by rw [this]; exact Nat.lt_irrefl _)
    · have e2 : (bs.map Value.bool).toArray.size = bs.length := by simp
      rw [e2, range_all_getD]
      exact q
/-- isinstance(x, T), T a built-in type or an own class by its name -/
theorem call_isi : CallR X (.builtin "isinstance") (fun xs H Q => ∃ (x : V) (n : String) (t : Value) (b : Bool), xs = [x, .ty n] ∧ TyOf X.K H x t ∧ PySem.W.kitOne X.K t (.type n) = some b ∧ Q (.bl b) H) := by
  intro pins s σ H xs us Q I rv h
  obtain ⟨x, n, t, b, rfl, ty, e, q⟩ := h
  obtain ⟨u, u2, rfl, ru, ru2⟩ := rv.two
  cases ru2
  exact isinst_ok I ru ty e fun tk => ⟨.bl b, H, I.tok tk, rfl, q⟩
/-- xs != [] -/
theorem op_ne_nil (hu : X.A.units < cLine) : OpR X (compareOp .NotEq) (fun x y H Q => ∃ (a b : Addr) (xs : List V), x = .ref a ∧ y = .ref b ∧ SqL X.K H a xs ∧ SqL X.K H b [] ∧ Q (.bl (!xs.isEmpty)) H) := by
  intro pins s σ H x y v u Q I rx ry h
  obtain ⟨a, b, xs, rfl, rfl, ha, hb, q⟩ := h
  cases rx
  cases ry
  obtain ⟨its, rv, pl, hz⟩ := I.list ha
  obtain ⟨its2, rv2, pl2, hz2⟩ := I.list hb
  cases rv2
  cases rv with
  | nil =>
    refine SeqAt.RcNeAt.lists pl.isList pl2.isList rfl hu (e := fun _ => true) (fun j h1 h2 => absurd h1 (by simp)) _ _ _ _ ⟨.bl _, H, I, rfl, q⟩
  | cons r t =>
    exact SeqAt.RcNeAt.lists_lengths pl.isList pl2.isList (by simp) hu _ _ _ _ ⟨.bl _, H, I, rfl, q⟩
end
end L2

namespace L2
open PySem PySem.Spec PyProof.Rows

section
variable {prog : Program} {w : World} {A : Around} {R : Result → Shared → Prop}
end

section
variable {X : Cx}
variable {x : Str} {p pos : Pos} {e : Expr} {es : List Expr} {kws : List Keyword} {t tk : TA} {id : String} {ks : List Str} {r : List V → List V → Hp → VK → Prop}
end
end L2

namespace L2
open PySem PySem.Spec PyProof.Rows

/-! ### defs by their names -/
/-- the def x of the text stands under its name -/
def DefIs (K : PySem.W.Frag) (mg : Str → Option Value) (x : Str) (st : Stmt) (ps : List Str) : Prop := ∃ a fd, Fun K x x st a fd ∧ Binds K fd ps [] ∧ mg x = some (.ref a)
/-- .. and keeps its promise -/
def Has (P : Program) (w : World) (K : PySem.W.Frag) (mg : Str → Option Value) (base : Heap) (k : Nat) (x : Str) (ps : List Str) (sp : Sp) : Prop :=
  ∃ a fd, PySem.W.keepIn K (.ref a) = true ∧ Binds K fd ps [] ∧ mg x = some (.ref a) ∧ FnOk P w K mg base CX0 k a fd ps sp
section
variable {P : Program} {w : World} {K : PySem.W.Frag} {mg : Str → Option Value} {base : Heap}
theorem DefIs.has {x : Str} {st : Stmt} {N ps : List Str} {k : Nat} {sp : Sp} (D : DefIs K mg x st ps) (S : FnScope N ps (defScope st)) (len : ∀ vs H Q E, sp vs H Q E → vs.length = ps.length)
    (hbody : ∀ (f : Addr) (cdv : Value) (A : Around) (outer : List Env) (s : Shared) (H : Hp) (vs : List V) (Q : VK) (E : XK), Room k (A.deeper (envOfC x (defScope st) s.heap.objs.size f cdv)) → sp vs H Q E →
      ∃ t, PSs (cxOf CX0 P w K mg base N x (defScope st) f cdv A outer s H E).nox (defBody st) t ∧ t { nx := fun _ H' => Q .non H', rt := Q } (start N vs) H) : Has P w K mg base (k + 1) x ps sp := by
  obtain ⟨a, fd, F, b, m⟩ := D
  exact ⟨a, fd, F.kp, b, m, F.ok S len fun cdv A outer s H vs Q E hr h => hbody a cdv A outer s H vs Q E hr h⟩
end
theorem pe_fn {X : Cx} {k : Nat} {x : Str} {ps : List Str} {sp : Sp} {p pos : Pos} {e : Expr} {es : List Expr} {t : TA} (h : Has X.prog X.w X.K X.mg X.base k x ps sp) (hr : Room k X.A) (hg : Gl X x) (ha : PA X (e :: es) t)
    (hdb : (x == ("__debug__" : Str)) = false := by decide) (he : starEach (e :: es) X.env = (false, eval e X.env) :: starEach es X.env := by rfl) (hpl : (backTo pos (starEach es X.env)).any (·.1) = false := by rfl) :
    PE X (.Call (.Name x p) (e :: es) [] pos) (tCall sp [] E0 t) := by
  obtain ⟨a, fd, h1, h2, h3, h4⟩ := h
  exact pe_call h4 hr hg h3 h1 h2 .nil pass0 ha hdb he hpl

/-- a built-in type's name as a value -/
theorem pe_ty {X : Cx} {x : Str} {n : String} {pos : Pos} (hg : Gl X x) (hm : X.mg x = none) (hv : bootBuiltins x = some (.type n)) (hn : x ≠ "__name__" := by decide) (hd : (x == ("__debug__" : Str)) = false := by decide) : PE X (.Name x pos) (tC (.ty n)) :=
  pe_bltn (v := .ty n) hg hm hv rfl hn hd

theorem iffF {p : Prop} (h : ¬ p) : (false = true ↔ p) := ⟨fun z => (Bool.false_ne_true z).elim, fun z => (h z).elim⟩
theorem iffT {p : Prop} (h : p) : (true = true ↔ p) := ⟨fun _ => h, fun _ => rfl⟩

theorem neI {a b : Int} (h : (!decide (V.int a = V.int b)) = true) : a ≠ b := fun e => by
  subst e
  rw [decide_eq_true rfl] at h
  cases h
theorem eqI {a b : Int} (h : ¬ (!decide (V.int a = V.int b)) = true) : a = b := by
  cases e : decide (V.int a = V.int b) with
  | true => exact V.int.inj (of_decide_eq_true e)
  | false => rw [e] at h; exact absurd rfl h
/-! ### the written part by its own letter (for a comprehension's block) -/
section
variable {X : Cx} {K : PySem.W.Frag}
end

/-! ### tables -/
abbrev HRow := List (Option Int)
abbrev HTab := List HRow
def cellV : Option Int → V
  | none => .non
  | some i => .int i
abbrev RowAt (K : PySem.W.Frag) (H : Hp) (a : Addr) (r : HRow) : Prop := SqL K H a (r.map cellV)
abbrev IntsAt (K : PySem.W.Frag) (H : Hp) (a : Addr) (ns : List Int) : Prop := SqL K H a (ns.map V.int)
def TabAt (K : PySem.W.Frag) (H : Hp) (a : Addr) (T : HTab) : Prop := ∃ as : List Addr, SqL K H a (as.map V.ref) ∧ as.length = T.length ∧ ∀ (i : Nat) b r, as[i]? = some b → T[i]? = some r → RowAt K H b r
theorem get_int {ns : List Int} {i : Nat} {x : V} (h : (ns.map V.int)[i]? = some x) : ∃ n, ns[i]? = some n ∧ x = .int n := by
  rw [List.getElem?_map] at h
  cases e : ns[i]? with
  | none => rw [e] at h; cases h
  | some n => rw [e] at h; exact ⟨n, rfl, (Option.some.inj h).symm⟩
/-- an index that is a place -/
theorem atI_int {α : Type} {xs : List α} {i : Int} {v : α} (h0 : 0 ≤ i) (h : xs[i.toNat]? = some v) : atI xs i = some v := by
  have := atI_nat h
  rwa [Int.toNat_of_nonneg h0] at this
end L2

namespace L2
open PySem PySem.Spec PyProof.Rows

section
variable {prog : Program} {w : World} {A : Around} {R : Result → Shared → Prop}
end

section
variable {X : Cx} {K : PySem.W.Frag}
end
end L2

namespace L2
open PySem PySem.Spec PySem.Calls PyProof.Rows

/-! ### an own exception's __class__ -/
section
variable {prog : Program} {w : World} {A : Around} {E : Value → Shared → Prop} {h : Heap} {g : Array GenState} {d : Drawn} {t : Nat} {os : OsState} {a C : Addr} {o : Obj} {K : PySem.W.Frag}
/-- the facts of an own exception class: decided over the written part -/
structure XCls (K : PySem.W.Frag) (C : Addr) : Prop where
  ga : PySem.W.findIn K (.ref C) "__getattribute__" = some (some (.builtin "BaseException.__getattribute__"))
  gn : PySem.W.findIn K (.ref C) "__getattr__" = some none
  gc : PySem.W.findIn K (.ref C) "__class__" = some (some (.builtin "object.__class__"))
  gb : PySem.W.mroIn K C (.type "BaseException") = some true
  go : PySem.W.mroIn K C (.type "object") = some true
  gt : (PySem.W.clsIn K C).isSome = true
theorem xc_check {M : Model} {nameV : Value} {Q : Unit → Shared → Prop} (G : XCls K C) (X : K.In h) (hx : h.get? a = some o) (hc : o.cls = .ref C) (hq : Q () ⟨h, g, d, t, os⟩) :
    wpAny M A (checkBuiltinCall "BaseException.__getattribute__" ⟨[.ref a, nameV], []⟩) Q E ⟨h, g, d, t, os⟩ := by
  have hk : builtinKind "BaseException.__getattribute__" = some .slot := by decide +kernel
  have hsplit : splitId "BaseException.__getattribute__" = some ("BaseException", "__getattribute__") := by decide +kernel
  have LS := PySem.W.looks_mroIn (M := M) X G.gb
  have ha := F.args_bexc_ga (.ref a) nameV
  simp only [checkBuiltinCall, hk, hsplit]
  refine wpAny_bind ?_
  unfold isInstance
  repeat (first | (with_reducible refine wpAny_loadPart_at hx ?_; rw [hc]) | (with_reducible refine LS.at ?_) | wp_step)
  exact hq
theorem xc_entry {tk : Tok} {Q : Fin → Shared → Prop} (G : XCls K C) (X : K.In h) (hx : h.get? a = some o) (hc : o.cls = .ref C) (hn : PySem.W.notCls o = true) (hd : o.dict = none) (hq : Q (.done (.ret (.ref C))) ⟨h, g, d, t, os⟩) :
    wpAny (model prog w) A (Builtin.«object.__getattribute__» ⟨[.ref a, .str "__class__" tk], []⟩) Q E ⟨h, g, d, t, os⟩ := by
  have hT5 : (⟨h, g, d, t, os⟩ : Shared).TypeIs (.builtin "object.__class__") "getset_descriptor" := F.typeOf_object_class
  obtain ⟨f6, f7⟩ := And.intro F.slot_gs_get.lookup F.slot_gs_set.lookup
  have LF := PySem.W.looks_findIn (M := model prog w) X G.gc
  repeat (any_goals (first | assumption | (with_reducible refine wpAny_loadPart_at hx ?_; rw [hc]) | (with_reducible refine LF.at ?_) | wp_step))
  refine PySem.W.class_get (s := ⟨h, g, d, t, os⟩) (ox := o) (od := none) X ⟨hx, hc, hn, by rw [hd]; trivial⟩ G.go ?_
  repeat (any_goals (first | assumption | wp_step))
theorem xc_call {tk : Tok} {R : Result → Shared → Prop} (G : XCls K C) (X : K.In h) (hx : h.get? a = some o) (hc : o.cls = .ref C) (hn : PySem.W.notCls o = true) (hd : o.dict = none) (hq : R (.ok (.ret (.ref C))) ⟨h, g, d, t, os⟩) :
    codeAny (model prog w) A (.call (.builtin "BaseException.__getattribute__") ⟨[.ref a, .str "__class__" tk], []⟩) R ⟨h, g, d, t, os⟩ :=
  codeAny_call_builtin (by decide +kernel) F.entry_bexc_ga (xc_check G X hx hc (xc_entry G X hx hc hn hd hq))
theorem xc_by {tk : Tok} {Q : Value → Shared → Prop} (G : XCls K C) (X : K.In h) (hx : h.get? a = some o) (hc : o.cls = .ref C) (hn : PySem.W.notCls o = true) (hd : o.dict = none) (hq : Q (.ref C) ⟨h, g, d, t, os⟩) :
    wpAny (model prog w) A (getAttrBy (.ref a) (.str "__class__" tk) false) Q E ⟨h, g, d, t, os⟩ := by
  have f3 := F.attr_ValueError.ga.bind (.ref a)
  have hx2 : (Value.builtin "BaseException.__getattribute__" == Value.builtin "object.__getattribute__") = false := by decide +kernel
  have hx1 : (onTheHeap (Value.ref C) && Value.builtin "BaseException.__getattribute__" == Value.builtin "object.__getattribute__") = false := by rw [hx2]; rfl
  have L1 := PySem.W.looks_findIn (M := model prog w) X G.ga
  have L2 := PySem.W.looks_findIn (M := model prog w) X G.gn
  repeat (any_goals (first | assumption | (with_reducible refine wpAny_loadPart_at hx ?_; rw [hc]) | (with_reducible refine L1.at ?_) | (with_reducible refine L2.at ?_) | wp_step))
  refine xc_call G X hx hc hn hd ?_
  repeat (any_goals (first | assumption | wp_step))
theorem xc_attr {Q : Option Value → Shared → Prop} (G : XCls K C) (X : K.In h) (hx : h.get? a = some o) (hc : o.cls = .ref C) (hn : PySem.W.notCls o = true) (hd : o.dict = none) (hq : Q (some (.ref C)) ⟨h, g, d, t + 1, os⟩) :
    wpAny (model prog w) A (getAttr? (.ref a) "__class__") Q E ⟨h, g, d, t, os⟩ := by
  unfold getAttr? getAttrBy?
  repeat (any_goals (first | assumption | with_reducible apply xc_by G X hx hc hn hd | wp_step))
def XAt (C a : Addr) (h : Heap) : Prop := ∃ o, h.get? a = some o ∧ o.cls = .ref C ∧ PySem.W.notCls o = true ∧ o.dict = none
/-- a class of the written part lies there as one -/
theorem cls_there (known : (PySem.W.clsIn K C).isSome = true) : ∃ (c : Value) (d : Option Addr) (cd : ClassData) (sl : Array (Option Value)), K.lookup C = some ⟨c, d, .cls cd, sl⟩ := by
  cases e : K.lookup C with
  | none => simp [PySem.W.clsIn, e] at known
  | some o =>
    obtain ⟨c, d, dt, sl⟩ := o
    cases dt with
    | cls cd => exact ⟨c, d, cd, sl, rfl⟩
    | _ => simp [PySem.W.clsIn, e] at known
theorem kitx_exc (G : XCls K C) : PySem.W.KitX K (.ref a) (.ref C) (XAt C a) where
  ty := fun M h _ p => by
    obtain ⟨o, h1, h2, _⟩ := p
    exact h2 ▸ (PySem.W.Looks.ld h1).andThen .now
  it := fun M h X _ => by
    obtain ⟨c, d, cd, sl, e⟩ := cls_there G.gt
    exact (PySem.W.Looks.ld (X _ _ e)).andThen .now
  ne := fun h tp dd its n sl X htp => beq_eq_false_iff_ne.mpr fun same => by
    obtain ⟨c, d, cd, sl', e⟩ := cls_there G.gt
    have at_ := X _ _ e
    rw [Value.ref.inj same, htp] at at_
    cases at_
  ca := fun {_ _ _ _ _ s} X p k => by
    obtain ⟨h, g, d, t, os⟩ := s
    obtain ⟨o, h1, h2, h3, h4⟩ := p
    exact xc_attr G X h1 h2 h3 h4 k
end
section
variable {X : Cx}
/-- isinstance(e, c), e a caught exception that is pinned; c a class -/
theorem call_isx {e C : Addr} {oe : Obj} (hp : (e, oe) ∈ X.pn) (hc : oe.cls = .ref C) (hn : PySem.W.notCls oe = true) (hd : oe.dict = none) (G : XCls X.K C) :
    CallR X (.builtin "isinstance") (fun xs H Q => ∃ (c : V) (u : Value) (b : Bool), xs = [.ref e, c] ∧ (∀ v, RelV c v → v = u) ∧ PySem.W.kitOne X.K (.ref C) u = some b ∧ Q (.bl b) H) := by
  intro pins s σ H xs us Q I rv h
  obtain ⟨c, u, b, rfl, hu, hk, q⟩ := h
  obtain ⟨u1, u2, rfl, ru, ru2⟩ := rv.two
  cases (show u1 = Value.ref e from ru)
  obtain rfl := hu u2 ru2
  exact PySem.W.kia_one (kitx_exc G) I.kIn ⟨oe, (I.pin _ (List.mem_append_left _ hp)).1, hc, hn, hd⟩ hk (fun z => nomatch z) fun tk => ⟨.bl b, H, I.tok tk, rfl, q⟩
/-- .. a tuple of classes -/
theorem call_isxT {e C : Addr} {oe : Obj} (hp : (e, oe) ∈ X.pn) (hc : oe.cls = .ref C) (hn : PySem.W.notCls oe = true) (hd : oe.dict = none) (G : XCls X.K C) :
    CallR X (.builtin "isinstance") (fun xs H Q => ∃ (p : Addr) (cs : List V) (us : List Value) (b : Bool), xs = [.ref e, .ref p] ∧ H p = some (.tup cs) ∧ (∀ vs, Vals cs vs → vs = us) ∧ PySem.W.kitAny X.K (.ref C) us = some b ∧ Q (.bl b) H) := by
  intro pins s σ H xs us Q I rv h
  obtain ⟨p, cs, ws, b, rfl, hpt, hu, hk, q⟩ := h
  obtain ⟨u1, u2, rfl, ru, ru2⟩ := rv.two
  cases (show u1 = Value.ref e from ru)
  cases (show u2 = Value.ref p from ru2)
  obtain ⟨_, its, r, ot, h1, h2, n, h3⟩ := (show ObjOk X.prog X.w H s.heap p (.tup cs) from I.hok p _ hpt)
  obtain rfl := hu its r
  obtain ⟨oc, odd, oda, osl⟩ := ot
  dsimp only at h2 h3
  subst h2 h3
  exact PySem.W.kia_tup (kitx_exc G) I.kIn ⟨oe, (I.pin _ (List.mem_append_left _ hp)).1, hc, hn, hd⟩ h1 hk (fun z => nomatch z) fun tk => ⟨.bl b, H, I.tok tk, rfl, q⟩
end
end L2

namespace L2
open PySem PySem.Spec PyProof.Rows

/-! ### an exception on its way: everything but it, its trace and the frames' slots is kept -/
/-- it lies at e with its trace; neither is among what D watches -/
def Tr (D : Addr → Prop) (h : Heap) (e : Addr) (cls fl : Value) : Prop :=
  ∃ oe vs T oT ts, h.get? e = some oe ∧ oe.cls = cls ∧ oe.dict = none ∧ oe.data = .fields vs ∧ vs[1]? = some (.ref T) ∧ ¬ D e ∧ ¬ D T ∧ T ≠ e ∧ h.get? T = some oT ∧ oT.data = .fields ts ∧ ts[3]? = some fl
/-- what D watches is kept but for the frames' slots -/
structure Kp (fs : List Addr) (D : Addr → Prop) (h h' : Heap) : Prop where
  keep : ∀ b o, D b → b ∉ fs → h.get? b = some o → h'.get? b = some o
  slot : ∀ b o, D b → h.get? b = some o → ∃ sl, h'.get? b = some { o with slots := sl }
theorem Kp.trans {fs : List Addr} {D : Addr → Prop} {h h1 h2 : Heap} (x : Kp fs D h h1) (y : Kp fs D h1 h2) : Kp fs D h h2 :=
  ⟨fun b o d n e => y.keep b o d n (x.keep b o d n e), fun b o d e => by
    obtain ⟨sl, e1⟩ := x.slot b o d e
    obtain ⟨sl2, e2⟩ := y.slot b _ d e1
    exact ⟨sl2, e2⟩⟩
theorem Kp.of {fs : List Addr} {D : Addr → Prop} {h h' : Heap} (k : ∀ b o, D b → h.get? b = some o → h'.get? b = some o) : Kp fs D h h' :=
  ⟨fun b o d _ e => k b o d e, fun b o d e => ⟨o.slots, k b o d e⟩⟩
theorem dict_mapF (f : Array Value → Array Value) (o : Obj) : (Obj.mapFields f o).dict = o.dict := by
  obtain ⟨_, _, d, _⟩ := o
  cases d <;> rfl
section
variable {M : Model} {A : Around} {E : Value → Shared → Prop} {s : Shared} {base : Heap} {D : Addr → Prop} {env : Env} {outer : List Env} {L e : Addr}

/-- what has fields is no frame -/
theorem not_frame {fs : List Env} {o : Obj} {vs : Array Value} (frames : s.heap.FunFrames base fs) (there : s.heap.get? e = some o) (fields : o.data = .fields vs) : e ∉ frs fs := by
  intro among
  obtain ⟨_, u, at_, none_⟩ := frames.mem among
  rw [there] at at_
  cases at_
  exact none_ vs fields
theorem fly_entry {oe : Obj} {vs : Array Value} {head : Value} {hadNext : Bool} {Q : Unit → Shared → Prop} (hfr : A.frames = some (env :: outer)) (hl : s.heap.FunFrames base (env :: outer)) (hf : env.frame = some L)
    (he : s.heap.get? e = some oe) (hdn : oe.dict = none) (hd : oe.data = .fields vs) (hsz : 1 < vs.size) (hDe : ¬ D e) (hD : ∀ b, D b → ∃ o, s.heap.get? b = some o)
    (h : ∀ h', Kp (frs (env :: outer)) D s.heap h' → Tr D h' e oe.cls (rawInt L) → Q () { s with heap := h' }) :
    wpAny M A (do let a ← frameOf env; let pl ← entryPlaceOf L hadNext; let b ← EntryCells.newEntry head a .none (rawInt L) .none pl; setField (.ref e) 1 b) Q E s := by
  have hene := not_frame hl he hd
  refine wpAny_bind (wpAny_frameOf_fun hfr hl hf fun h₁ hs₁ => wpAny_bind (wpAny_entryPlaceOf fun pl hpl => ?_))
  unfold EntryCells.newEntry newFields
  refine wpAny_bind (wpAny_newObj_type ?_ (hpl.sizeOk5 _ _ _ _ _))
  have e1 : h₁.get? e = some oe := (hs₁.2.1 e hene).trans he
  generalize eob : ({ cls := .type "traceback", dict := none, data := .fields ([head, .ref L, .none, rawInt L, .none] ++ (if pl.isEmpty then List.replicate 6 Value.none else pl)).toArray } : Obj) = ob
  have obd : ob.data = .fields ([head, .ref L, .none, rawInt L, .none] ++ (if pl.isEmpty then List.replicate 6 Value.none else pl)).toArray := by rw [← eob]
  have obn : ob.isFreed = false := Obj.isFreed_of_fields obd
  have e2 := Heap.get?_push_of_some (h := h₁) ob e1
  have z1 : h₁.objs.size = s.heap.objs.size := hs₁.1
  have nd : ∀ b, D b → b ≠ e := fun b d z => hDe (z ▸ d)
  refine wpAny_setField e2 hd hsz (h _ ⟨fun b o d hnf hb => ?_, fun b o d hb => ?_⟩ ?_)
  · rw [Heap.get?_update_other _ _ (Ne.symm (nd b d))]
    exact Heap.get?_push_of_some _ ((hs₁.2.1 b hnf).trans hb)
  · obtain ⟨sl, hs⟩ := hs₁.2.2 b o hb
    refine ⟨sl, ?_⟩
    rw [Heap.get?_update_other _ _ (Ne.symm (nd b d))]
    exact Heap.get?_push_of_some _ hs
  · have hTe : h₁.objs.size ≠ e := Nat.ne_of_gt (Heap.lt_size e1)
    have d3 := Obj.data_mapFields hd (·.setIfInBounds 1 (Value.ref h₁.objs.size))
    have e3 := Heap.get?_update_self (Obj.mapFields (·.setIfInBounds 1 (Value.ref h₁.objs.size))) e2 (Obj.isFreed_of_fields d3)
    have t3 := (Heap.get?_update_other (h₁.push ob) (Obj.mapFields (·.setIfInBounds 1 (Value.ref h₁.objs.size))) (Ne.symm hTe)).trans (Heap.get?_push_size h₁ obn)
    refine ⟨_, _, h₁.objs.size, _, _, e3, Obj.cls_mapFields _ _, (dict_mapF _ _).trans hdn, d3, by simp [hsz], hDe, fun d => ?_, hTe, t3, obd, ?_⟩
    · obtain ⟨o, ho⟩ := hD _ d
      have := Heap.lt_size ho
      rw [z1] at this
      exact Nat.lt_irrefl _ this
    · first | (simp; done) | (rcases hpl with rfl | ⟨_, _, _, _, _, _, _, rfl⟩ <;> simp)

theorem wp_then {α : Type} {c : Prop} [Decidable c] {a b : Sem α} {Q : α → Shared → Prop} (hc : c) (h : wpAny M A a Q E s) : wpAny M A (if c then a else b) Q E s := by rw [if_pos hc]; exact h
/-- the flight's mark is taken off -/
theorem fly_land {cls fl : Value} {fs : List Addr} {Q : Unit → Shared → Prop} (ht : Tr D s.heap e cls fl) (h : ∀ h', Kp fs D s.heap h' → (∀ v, s.heap.get? e = some v → h'.get? e = some v) → Tr D h' e cls .none → Q () { s with heap := h' }) : wpAny M A (setFlight (.ref e) none) Q E s := by
  obtain ⟨oe, vs, T, oT, ts, he, hc, hdn, hd, h1, hDe, hDT, hTe, hT, hdT, h3⟩ := ht
  have z3 : 3 < ts.size := (Array.getElem?_eq_some_iff.mp h3).1
  have other : ∀ b, b ≠ T → (s.heap.update T (Obj.mapFields (·.setIfInBounds 3 ((none : Option Addr).elim Value.none fun f => rawInt f)))).get? b = s.heap.get? b := fun b hb => Heap.get?_update_other _ _ (Ne.symm hb)
  unfold setFlight
  refine wpAny_bind (wpAny_field he hd h1 (wp_then (by simp) (wpAny_setField hT hdT z3 ?_)))
  refine (h _ (Kp.of fun b o d e => (other b fun z => hDT (z ▸ d)).trans e) (fun v q => (other e (Ne.symm hTe)).trans q) ?_)
  exact ⟨oe, vs, T, _, _, (other e (Ne.symm hTe)).trans he, hc, hdn, hd, h1, hDe, hDT, hTe, Heap.get?_update_self _ hT (Obj.isFreed_of_fields (Obj.data_mapFields hdT _)), Obj.data_mapFields hdT _, by simp [z3]⟩

theorem wp_else {α : Type} {c : Prop} [Decidable c] {a b : Sem α} {Q : α → Shared → Prop} (hc : ¬ c) (h : wpAny M A b Q E s) : wpAny M A (if c then a else b) Q E s := by rw [if_neg hc]; exact h
/-- a frame is noted: an exception that was just made -/
theorem fly_note0 {oe : Obj} {vs : Array Value} {Q : Unit → Shared → Prop} (hfr : A.frames = some (env :: outer)) (hl : s.heap.FunFrames base (env :: outer)) (hf : env.frame = some L)
    (he : s.heap.get? e = some oe) (hdn : oe.dict = none) (hd : oe.data = .fields vs) (h1 : vs[1]? = some .none) (hDe : ¬ D e) (hD : ∀ b, D b → ∃ o, s.heap.get? b = some o)
    (h : ∀ h', Kp (frs (env :: outer)) D s.heap h' → Tr D h' e oe.cls (rawInt L) → Q () { s with heap := h' }) : wpAny M A (noteFrame (.ref e) env) Q E s := by
  simp only [noteFrame, hf]
  exact wpAny_bind (wpAny_field he hd h1 (wp_else (by decide) (fly_entry hfr hl hf he hdn hd (Array.getElem?_eq_some_iff.mp h1).1 hDe hD h)))
/-- .. one that is on its way, whatever its mark -/
theorem fly_noteG {cls fl : Value} {Q : Unit → Shared → Prop} (hfr : A.frames = some (env :: outer)) (hl : s.heap.FunFrames base (env :: outer)) (hf : env.frame = some L) (ht : Tr D s.heap e cls fl) (hD : ∀ b, D b → ∃ o, s.heap.get? b = some o)
    (h : ∀ h' fl', Kp (frs (env :: outer)) D s.heap h' → Tr D h' e cls fl' → ((fl == rawInt L) = false → fl' = rawInt L) → Q () { s with heap := h' }) : wpAny M A (noteFrame (.ref e) env) Q E s := by
  obtain ⟨oe, vs, T, oT, ts, he, rfl, hdn, hd, h1, hDe, hDT, hTe, hT, hdT, h3⟩ := id ht
  simp only [noteFrame, hf]
  refine wpAny_bind (wpAny_field he hd h1 (wp_then (by simp) (wpAny_bind (wpAny_field hT hdT h3 ?_))))
  by_cases mark : (fl == rawInt L) = true
  · exact wp_then mark (wpAny_pure (h s.heap fl (Kp.of fun _ _ _ q => q) ht fun z => absurd (mark.symm.trans z) (by decide)))
  refine wp_else mark (wpAny_bind (wpAny_setField hT hdT (Array.getElem?_eq_some_iff.mp h3).1 ?_))
  have off : ∀ b, b ≠ T → (s.heap.update T (Obj.mapFields (·.setIfInBounds 3 Value.none))).get? b = s.heap.get? b := fun b n => Heap.get?_update_other _ _ (Ne.symm n)
  have stay : ∀ b o, D b → s.heap.get? b = some o → (s.heap.update T (Obj.mapFields (·.setIfInBounds 3 Value.none))).get? b = some o := fun b o d q => by
    rw [off b fun z => hDT (z ▸ d)]; exact q
  refine fly_entry (D := D) hfr (hl.of_keeps fun b o q n => ⟨o, ?_, rfl⟩) hf ?_ hdn hd (Array.getElem?_eq_some_iff.mp h1).1 hDe (fun b d => ?_) fun h' kp tr => h h' _ ((Kp.of stay).trans kp) tr fun _ => rfl
  · rw [off b fun z => by subst z; rw [hT] at q; cases q; exact n ts hdT]; exact q
  · rw [off e (Ne.symm hTe)]; exact he
  · obtain ⟨o, q⟩ := hD b d
    exact ⟨o, stay b o d q⟩
/-- .. one that comes from below -/
theorem fly_note1 {cls : Value} {Q : Unit → Shared → Prop} (hfr : A.frames = some (env :: outer)) (hl : s.heap.FunFrames base (env :: outer)) (hf : env.frame = some L) (ht : Tr D s.heap e cls .none) (hD : ∀ b, D b → ∃ o, s.heap.get? b = some o)
    (h : ∀ h', Kp (frs (env :: outer)) D s.heap h' → Tr D h' e cls (rawInt L) → Q () { s with heap := h' }) : wpAny M A (noteFrame (.ref e) env) Q E s :=
  fly_noteG hfr hl hf ht hD fun h' fl' kp tr z => h h' kp (z (by simp [rawInt]) ▸ tr)
/-- a frame is left -/
theorem fly_leave {cls : Value} {Q : Unit → Shared → Prop} (hn : ∀ Q' : Unit → Shared → Prop, (∀ h', Kp (frs (env :: outer)) D s.heap h' → Tr D h' e cls (rawInt L) → Q' () { s with heap := h' }) → wpAny M A (noteFrame (.ref e) env) Q' E s)
    (h : ∀ h', Kp (frs (env :: outer)) D s.heap h' → Tr D h' e cls .none → Q () { s with heap := h' }) : wpAny M A (leaving env (.ref e)) Q E s := by
  unfold leaving
  refine wpAny_bind (hn _ fun h1 k1 t1 => ?_)
  exact fly_land (s := { s with heap := h1 }) (fs := frs (env :: outer)) t1 fun h2 k2 _ t2 => h h2 (k1.trans k2) t2
end

/-! ### the package behind a call that ends in an exception -/
section
variable {P : Program} {w : World} {H H' : Hp} {h h' : Heap} {a : Addr} {o : HO}
theorem ObjOk.there (x : ObjOk P w H h a o) : ∃ u, h.get? a = some u := by
  cases o with
  | lst xs => obtain ⟨_, _, _, _, e⟩ := x; exact ⟨_, e⟩
  | tup xs => obtain ⟨_, _, _, _, e, _⟩ := x; exact ⟨_, e⟩
  | dK kvs => obtain ⟨_, _, _, _, o, _, _, e, _⟩ := x; exact ⟨_, e⟩
  | dT kvs => obtain ⟨_, _, _, _, o, _, _, e, _⟩ := x; exact ⟨_, e⟩
  | set S n => obtain ⟨o, _, _, _, e, _⟩ := x; exact ⟨_, e⟩
  | ins C dx fs => obtain ⟨_, _, _, e, _⟩ := x; exact ⟨_, e⟩
  | own y => exact x
  | xd fs => obtain ⟨_, ⟨_, _, _, e, _⟩, _⟩ := x; exact ⟨_, e⟩
  | rng lo hi => obtain ⟨_, _, _, e⟩ := x; exact ⟨_, e⟩
  | frz ob u => exact ⟨_, x.1⟩
  | tbl ps => exact ⟨_, (show h.get? a = some _ from x)⟩
  | met f y => exact ⟨_, (show h.get? a = some _ from x)⟩
  | ext φ => exact x.2.1
theorem HOk.none (x : HOk P w H h) (e : h.get? a = none) : H a = none := by
  cases q : H a with
  | none => rfl
  | some u => obtain ⟨_, z⟩ := (x a u q).there; rw [e] at z; cases z
end
/-- what is watched: what was there at the call, and what is tracked now -/
def Wd (h0 : Heap) (H' : Hp) (b : Addr) : Prop := (∃ o, h0.get? b = some o) ∨ (∃ o, H' b = some o)
structure Fl (P : Program) (w : World) (fs : List Addr) (H : Hp) (h0 : Heap) (H' : Hp) (h : Heap) (a : Addr) (cls fl : Value) : Prop where
  un : Un fs [] H H' h0 h
  hok : HOk P w H' h
  tr : Tr (Wd h0 H') h a cls fl
section
variable {P : Program} {w : World} {fs : List Addr} {H H' : Hp} {h0 h h' : Heap} {a : Addr} {cls fl fl' : Value}
theorem Fl.dom (x : Fl P w fs H h0 H' h a cls fl) : ∀ b, Wd h0 H' b → ∃ o, h.get? b = some o := fun b d => by
  rcases d with ⟨o, e⟩ | ⟨o, e⟩
  · exact x.un.there b o e (by simp)
  · exact (x.hok b o e).there
theorem hok_kp (hok : HOk P w H' h) (hfs : ∀ b ∈ fs, H' b = none) (k : Kp fs (Wd h0 H') h h') : HOk P w H' h' := fun b o e =>
  (hok b o e).stay (fun c v hc q => by
    have hs : ∃ u, H' c = some u := by
      rcases hc with z | z
      · exact ⟨o, z ▸ e⟩
      · exact ⟨_, z⟩
    refine k.keep c v (.inr hs) (fun z => ?_) q
    obtain ⟨u, hu⟩ := hs
    rw [hfs c z] at hu; cases hu) (fun _ q => q) fun _ _ q => q
theorem un_kp (un : Un fs [] H H' h0 h) (k : Kp fs (Wd h0 H') h h') : Un fs [] H H' h0 h' where
  keep := fun b o e n hb hx => k.keep b o (.inl ⟨o, e⟩) hb (un.keep b o e n hb hx)
  slot := fun b o e n hb hx => by
    obtain ⟨sl, e1⟩ := un.slot b o e n hb hx
    obtain ⟨sl2, e2⟩ := k.slot b _ (.inl ⟨o, e⟩) e1
    exact ⟨sl2, e2⟩
  free := un.free
  there := fun b o e hx => by
    obtain ⟨o', e1⟩ := un.there b o e hx
    obtain ⟨sl, e2⟩ := k.slot b o' (.inl ⟨o, e⟩) e1
    exact ⟨_, e2⟩
  tups := un.tups
  frzs := un.frzs
  tbls := un.tbls
theorem Fl.kp (x : Fl P w fs H h0 H' h a cls fl) (hfs : ∀ b ∈ fs, H' b = none) (k : Kp fs (Wd h0 H') h h') (t : Tr (Wd h0 H') h' a cls fl') : Fl P w fs H h0 H' h' a cls fl' :=
  ⟨un_kp x.un k, hok_kp x.hok hfs k, t⟩
theorem Tr.mono {D D' : Addr → Prop} (t : Tr D h a cls fl) (k : ∀ b, D' b → D b) : Tr D' h a cls fl := by
  obtain ⟨oe, vs, T, oT, ts, he, hc, hdn, hd, h1, hDe, hDT, r⟩ := t
  exact ⟨oe, vs, T, oT, ts, he, hc, hdn, hd, h1, fun d => hDe (k _ d), fun d => hDT (k _ d), r⟩
end
/-- how an exception lies behind a call -/
def CXe (P : Program) (w : World) : CXT := fun outer H s E e s' =>
  ∃ a cls H', e = .ref a ∧ s'.os = s.os ∧ AllBare s'.gens ∧ Fl P w (frs outer) H s.heap H' s'.heap a cls .none ∧ E cls none H'
end L2

namespace L2
open PySem PySem.Spec PyProof.Rows

/-! ### own exception classes -/
abbrev vMro : List Value := [.type "ValueError", .type "Exception", .type "BaseException", .type "object"]
structure ExC (K : PySem.W.Frag) (mg : Str → Option Value) (x : Str) (C : Addr) : Prop where
  gl : mg x = some (.ref C)
  ex : PySem.W.excIn K C vMro "ValueError.__new__" = true
  xc : XCls K C
theorem exc_shape {K : PySem.W.Frag} {h : Heap} {C : Addr} {bmB : List Value} {newId : String} (X : K.In h) (q : PySem.W.excIn K C bmB newId = true) :
    ∃ bm N nm qn bs hd sn sub ab col dd k0 k1 k2 k3 k5, h.get? C = some (excClassObj nm qn C N bs bm hd sn sub ab col dd k0 k1 k2 k3 k5 newId) ∧ (∃ mN, h.Ns N mN ∧ mN "__init__" = none) ∧ OwnTail h bmB bm := by
  unfold PySem.W.excIn at q
  split at q
  case h_2 => cases q
  case h_1 dd cd sl ho =>
    split at q
    case h_2 => cases q
    case h_1 C1 bm k0 k1 k2 k3 nw k5 em es =>
      simp only [Bool.and_eq_true, beq_iff_eq, Bool.not_eq_true'] at q
      obtain ⟨⟨⟨⟨⟨e1, e2⟩, e3⟩, e4⟩, e5⟩, e6⟩ := q
      subst e1 e2
      rcases cd with ⟨nm, bs, mro, ns, qn, hd, sn, sub, ab, col, del⟩
      dsimp only at em e3 e5 e6
      subst em e3
      have esl : sl = #[k0, k1, k2, k3, some (.builtin nw), k5] := Array.toList_inj.mp es
      subst esl
      exact ⟨bm, ns, nm, qn, bs, hd, sn, sub, ab, col, dd, k0, k1, k2, k3, k5, X _ _ ho, ⟨_, .of_isNs (PySem.W.isNs_of_in X e5), PySem.W.nsMap_none_of_in X e5 e6⟩, PySem.W.tail_of_in X e4⟩

/-! ### raise -/
section
variable {X : Cx} {E : XK} {C : Addr}
/-- an exception that is made here reaches what is wanted -/
def Raises (X : Cx) (E : XK) (C : Addr) : Prop := ∀ (pins : List (Addr × Obj)) (σ : St) (H : Hp) (s : Shared) (a : Addr) (h' : Heap) (args : List Value), Inv X pins σ H s → Heap.MadeExcOf s.heap h' a (.ref C) args → E (.ref C) none H → X.xe (.ref a) { s with heap := h' }
def tRaise (E : XK) (C : Addr) (t : TA) : TS := fun _ σ H => t σ H fun xs H1 => xs.length ≤ sizeLine ∧ E (.ref C) none H1
theorem ps_raise {x : Str} {np cpos pos : Pos} {e : Expr} {es : List Expr} {t : TA} (G : ExC X.K X.mg x C) (hc : X.calm = true) (hg : Gl X x) (R : Raises X E C) (ha : PA X (e :: es) t)
    (hd : (x == ("__debug__" : Str)) = false := by decide) (he : starEach (e :: es) X.env = (false, eval e X.env) :: starEach es X.env := by rfl) (hpl : (backTo cpos (starEach es X.env)).any (·.1) = false := by rfl) :
    PS X (.Raise (some (.Call (.Name x np) (e :: es) [] cpos)) none pos) (tRaise E C t) := by
  intro pins s σ H D I h
  obtain ⟨bm, N, nm, qn, bs, hd', sn, sub, ab, col, dd, k0, k1, k2, k3, k5, hC, ⟨mN, hN, hi⟩, T⟩ := exc_shape I.mod.kin G.ex
  have hbase : bm.contains (.type "BaseException") = true := T.hasType (b := true) (by decide)
  have hpl' : (backTo cpos (starEach (e :: es) X.env)).any (·.1) = false := by rw [he]; exact hpl
  refine wpAny_Raise_call_subT (C := C) (N := N) (nm := nm) (q := qn) (bs := bs) (bm := bm) (hdct := hd') (sn := sn) (sub := sub) (ab := ab) (col := col) (dd := dd) (k0 := k0) (k1 := k1) (k2 := k2) (k3 := k3) (k5 := k5) F.excBase_ValueError (mN := mN) hbase (I.ok.hd hc) hpl' hi (ld_glob I hg G.gl ⟨rfl, ?_⟩ hd)
  have hb : backTo cpos (starEach (e :: es) X.env) = (false, eval e X.env) :: backTo cpos (starEach es X.env) := by rw [he]; rfl
  have hw := ha cpos pins s σ H _ I h
  rw [hb] at hw ⊢
  refine Calls.evalArgs_plain (thn hw fun us s1 ⟨xs, H1, I1, r, z, q⟩ => ⟨rfl, by rw [← r.length]; exact z, ?_⟩)
  exact ⟨I1.bk _ _ hC, hN.keeps I1.bk, T.keeps I1.bk, fun h' a hm => R pins σ H1 s1 a h' us I1 hm q⟩
end

/-! ### out of a def -/
section
variable {P : Program} {w : World} {K : PySem.W.Frag} {mg : Str → Option Value} {base : Heap} {N : List Str} {qual : Str} {scope : Scope} {f : Addr} {cd : Value} {A : Around} {outer : List Env} {s : Shared} {H : Hp} {E : XK}
  {pins : List (Addr × Obj)} {σ : St} {H' : Hp} {s' : Shared} {e : Addr} {cls : Value}
abbrev cxE (P : Program) (w : World) (K : PySem.W.Frag) (mg : Str → Option Value) (base : Heap) (N : List Str) (qual : Str) (scope : Scope) (f : Addr) (cd : Value) (A : Around) (outer : List Env) (s : Shared) (H : Hp) (E : XK) : Cx :=
  cxOf (CXe P w) P w K mg base N qual scope f cd A outer s H E
theorem leave_def (I : Inv (cxE P w K mg base N qual scope f cd A outer s H E) pins σ H' s')
    (hn : ∀ (Q' : Unit → Shared → Prop) (E' : Value → Shared → Prop), (∀ h', Kp (frs (envOfC qual scope s.heap.objs.size f cd :: outer)) (Wd s.heap H') s'.heap h' → Tr (Wd s.heap H') h' e cls (rawInt s.heap.objs.size) → Q' () { s' with heap := h' }) →
      wpAny (model P w) (A.deeper (envOfC qual scope s.heap.objs.size f cd)) (noteFrame (.ref e) (envOfC qual scope s.heap.objs.size f cd)) Q' E' s')
    (hE : E cls none H') : (cxE P w K mg base N qual scope f cd A outer s H E).xe (.ref e) s' := by
  refine fly_leave (D := Wd s.heap H') (L := s.heap.objs.size) (fun Q' h => hn Q' _ h) fun h' kp tr => ?_
  have nl : ∀ b, Wd s.heap H' b → b ≠ s.heap.objs.size := fun b d z => by
    rcases d with ⟨o, q⟩ | ⟨o, q⟩
    · exact Nat.lt_irrefl _ (z ▸ Heap.lt_size q)
    · have z2 : H' s.heap.objs.size = none := I.free
      rw [z, z2] at q; cases q
  have kp' : Kp (frs outer) (Wd s.heap H') s'.heap h' := ⟨fun b o d nb q => kp.keep b o d (fun hm => ?_) q, kp.slot⟩
  · exact ⟨e, cls, H', rfl, I.os, I.bare, ⟨un_kp I.base kp', hok_kp I.hok (fun b hb => I.stkFree b (List.mem_cons_of_mem _ hb)) kp', tr⟩, hE⟩
  · rcases List.mem_cons.mp (show b ∈ s.heap.objs.size :: frs outer from hm) with z | z
    · exact nl b d z
    · exact nb z
/-- an exception made in the def's own body -/
theorem raises_def {C : Addr} : Raises (cxE P w K mg base N qual scope f cd A outer s H E) E C := by
  intro pins σ H2 s2 a h' args I hx hE
  have I2 := I.kept (t' := s2.toks) hx.keeps
  obtain ⟨t, he, _, _⟩ := hx.there
  refine leave_def (s' := { s2 with heap := h' }) I2 (fun Q' E' k => ?_) hE
  refine fly_note0 (D := Wd s.heap H2) (s := { s2 with heap := h' }) I2.ok.frames I2.stack rfl he rfl rfl rfl (fun d => ?_) (fun b d => ?_) k
  · rcases d with ⟨o, q⟩ | ⟨o, q⟩
    · obtain ⟨o', q'⟩ := I.base.there a o q (fun z => absurd (show a ∈ ([] : List Addr) from z) (by simp))
      rw [hx.new] at q'; cases q'
    · rw [I.hok.none hx.new] at q; cases q
  · rcases d with ⟨o, q⟩ | ⟨o, q⟩
    · exact I2.base.there b o q (fun z => absurd (show b ∈ ([] : List Addr) from z) (by simp))
    · exact (I2.hok b o q).there
/-- one that comes from a callee -/
theorem pass_def : Passes (CXe P w) (cxE P w K mg base N qual scope f cd A outer s H E) E := by
  intro pins σ H1 s1 e s' I h
  obtain ⟨a, cls, H', rfl, os, bare, fl, hE⟩ := h
  have I2 : Inv (cxE P w K mg base N qual scope f cd A outer s H E) pins σ H' s' := I.call' (ch := []) os fl.un fl.hok bare fun b z => absurd z (by simp)
  refine leave_def I2 (fun Q' E' k => ?_) hE
  refine fly_note1 (D := Wd s.heap H') I2.ok.frames I2.stack rfl (fl.tr.mono fun b d => ?_) (fun b d => ?_) k
  · rcases d with ⟨o, q⟩ | q
    · exact .inl (I.base.there b o q (fun z => absurd (show b ∈ ([] : List Addr) from z) (by simp)))
    · exact .inr q
  · rcases d with ⟨o, q⟩ | ⟨o, q⟩
    · exact I2.base.there b o q (fun z => absurd (show b ∈ ([] : List Addr) from z) (by simp))
    · exact (I2.hok b o q).there
end

/-! ### a call whose exception is caught (or passed) by what stands around it; the wish may lean on the names' values -/
section
variable {X : Cx} {CX : CXT} {k : Nat} {f : Addr} {fd : FuncData} {ps : List Str} {sp : Sp} {E : St → XK} {x : Str} {p pos : Pos} {e : Expr} {es : List Expr} {t : TA}
def PassesS (CX : CXT) (X : Cx) (E : St → XK) : Prop := ∀ (pins : List (Addr × Obj)) (σ : St) (H : Hp) (s : Shared) (e : Value) (s' : Shared), Inv X pins σ H s → CX X.stack H s (E σ) e s' → X.xe e s'
def tCallS (sp : Sp) (E : St → XK) (t : TA) : TE := fun σ H Q => t σ H fun vs H1 => sp vs H1 Q (E σ)
theorem pe_callS (F : FnOk X.prog X.w X.K X.mg X.base CX k f fd ps sp) (hr : Room k X.A) (hg : Gl X x) (hm : X.mg x = some (.ref f)) (hk : PySem.W.keepIn X.K (.ref f) = true) (hb : Binds X.K fd ps []) (hx : PassesS CX X E)
    (ha : PA X (e :: es) t) (hdb : (x == ("__debug__" : Str)) = false := by decide) (he : starEach (e :: es) X.env = (false, eval e X.env) :: starEach es X.env := by rfl) (hpl : (backTo pos (starEach es X.env)).any (·.1) = false := by rfl) :
    PE X (.Call (.Name x p) (e :: es) [] pos) (tCallS sp E t) := by
  intro pins s σ H Q I h
  refine wpAny_Call_Name_kw (ld_glob I hg hm ?_ hdb)
  refine PySem.W.callWith_K (h₀ := X.base) I.ok.mod.kin hk (thn (ha pos pins s σ H _ I h) fun us s1 ⟨vs, H1, I1, r, q⟩ => ⟨I1.kIn, ?_⟩) he hpl
  have hl : us.length = ps.length := by rw [← r.length]; exact F.len _ _ _ _ q
  have hb' := hb s1 us I1.kIn (by rw [List.append_nil]; exact hl)
  rw [List.append_nil] at hb'
  refine wpAny_call (codeAny_mono (F.run X.A X.stack s1 H1 ⟨us, []⟩ us vs Q (E σ) hr I1.env0 hb' r q) fun r s' hq => ?_)
  match r, hq with
  | .error e, hq => exact hx pins σ H1 s1 e s' I1 hq
  | .ok (.ret u), hq => exact I1.after hq
  | .ok .next, hq => exact False.elim hq
  | .ok .brk, hq => exact False.elim hq
  | .ok .cont, hq => exact False.elim hq
end

/-! ### a name goes -/
section
variable {X : Cx} {pins : List (Addr × Obj)} {σ : St} {H : Hp} {s : Shared}
theorem name_goes {M : Model} {A : Around} {E : Value → Shared → Prop} {i : Nat} {n : Str} {pos : Pos} {Q : Unit → Shared → Prop} (I : Inv X pins σ H s) (hN : X.N.Nodup) (hi : X.N[i]? = some n) (hk : X.env.kindOf n = some .local)
    (h : ∀ s', Inv X pins (σ.set i none) H s' → Q () s') : wpAny M A (do bindName X.env n .none; unbindBehindTheSuite X.env n pos) Q E s := by
  obtain ⟨m, hn, hl⟩ := id I.loc
  have hcls : (X.env.scope.kind == .class || (X.env.scope.kind == .module && X.env.locals != X.env.globals)) = false := by rw [I.ok.kind]; rfl
  refine wpAny_nameGoes_keeps hk hn hcls fun h' v hn' hs => h _ ?_
  have ne : ∀ b o, X.s₀.heap.get? b = some o → b ≠ X.env.locals := fun b o e => Nat.ne_of_lt (Nat.lt_of_lt_of_le (Heap.lt_size e) I.ok.above)
  refine ⟨I.ok, I.os, I.bare, ⟨fun b o e n hb hx => (hs.2 b (ne b o e)).trans (I.base.keep b o e n hb hx), fun b o e n hb hx => ?_, I.base.free, fun b o e hx => ?_, I.base.tups, I.base.frzs, I.base.tbls⟩, ⟨_, hn', fun j y v' e1 e2 e3 => ?_⟩, fun y c e => ?_, I.free, I.freeC, fun p hp => ?_, fun b o e => ?_, by simpa using I.len⟩
  · obtain ⟨sl, q⟩ := I.base.slot b o e n hb hx
    exact ⟨sl, (hs.2 b (ne b o e)).trans q⟩
  · obtain ⟨o', q⟩ := I.base.there b o e hx
    exact ⟨o', (hs.2 b (ne b o e)).trans q⟩
  · have hj : j ≠ i := fun z => by
      subst z
      by_cases hz : j < σ.length
      · rw [List.getElem?_set_self hz] at e2; cases e2
      · rw [List.getElem?_eq_none (by simpa using hz)] at e2; cases e2
    rw [List.getElem?_set_ne (Ne.symm hj)] at e2
    obtain ⟨u, r, q⟩ := hl j y v' e1 e2 e3
    refine ⟨u, r, ?_⟩
    have hy : y ≠ n := fun z => hj (nodup_ix hN e1 (z ▸ hi))
    rcases q with ⟨q1, q2⟩ | ⟨q1, c, q2, q3⟩
    · exact .inl ⟨q1, by simp [hy, q2]⟩
    · exact .inr ⟨q1, c, q2, q3.sameBut hs (I.cne y c q2)⟩
  · obtain ⟨v', z⟩ := I.cell y c e
    exact ⟨v', z.sameBut hs (I.cne y c e)⟩
  · obtain ⟨e, n, ne, nf, d⟩ := I.pin p hp
    exact ⟨(hs.2 p.1 ne).trans e, n, ne, nf, d⟩
  · refine (I.hok b o e).stay (fun c u hc q => (hs.2 c ?_).trans q) (fun _ q => q) fun _ _ q => q
    intro z
    have hf := I.free
    rcases hc with hc | hc
    · rw [← hc, z, hf] at e; cases e
    · rw [z, hf] at hc; cases hc
end
end L2

namespace L2
open PySem PySem.Spec PyProof.Rows

/-! ### try .. except C as n -/
/-- the body's context: what an exception wants -/
def Cx.tryB (X : Cx) (pins : List (Addr × Obj)) (E : St → XK) : Cx :=
  { X with pn := X.pn ++ pins, xe := fun e s' => ∃ pins' σ' H1 s1, Inv { X with pn := X.pn ++ pins } pins' σ' H1 s1 ∧ CXe X.prog X.w X.stack H1 s1 (E σ') e s' }
/-- the suite's context -/
def Cx.hnd (X : Cx) (a : Addr) (pn : List (Addr × Obj)) (xe : Value → Shared → Prop) : Cx := { X with A := X.A.mark (some (.ref a)), calm := false, pn := pn, xe := xe }
section
variable {X : Cx} {pins : List (Addr × Obj)} {σ : St} {H : Hp} {s : Shared}
theorem Inv.pn1 (I : Inv X pins σ H s) : Inv { X with pn := X.pn ++ pins } [] σ H s :=
  ⟨⟨I.ok.mod, I.ok.kind, I.ok.glob, I.ok.blt, I.ok.above, I.ok.inj, I.ok.has, I.ok.cab, I.ok.hd, I.ok.frames, I.ok.stk, I.ok.exf, I.ok.bs, I.ok.bsz, I.ok.noex, I.ok.exfs, I.ok.funs, I.ok.frf⟩,
    I.os, I.bare, I.base, I.loc, I.cell, I.free, I.freeC, fun p hp => I.pin p (by rw [List.append_nil] at hp; exact hp), I.hok, I.len⟩
theorem Inv.pn2 {pins' : List (Addr × Obj)} (I : Inv { X with pn := X.pn ++ pins } pins' σ H s) : Inv X pins σ H s :=
  ⟨⟨I.ok.mod, I.ok.kind, I.ok.glob, I.ok.blt, I.ok.above, I.ok.inj, I.ok.has, I.ok.cab, I.ok.hd, I.ok.frames, I.ok.stk, I.ok.exf, I.ok.bs, I.ok.bsz, I.ok.noex, I.ok.exfs, I.ok.funs, I.ok.frf⟩,
    I.os, I.bare, I.base, I.loc, I.cell, I.free, I.freeC, fun p hp => I.pin p (List.mem_append_left _ hp), I.hok, I.len⟩
theorem Inv.toTry (I : Inv X pins σ H s) (E : St → XK) : Inv (X.tryB pins E) [] σ H s := I.pn1.wish _
theorem Inv.ofTry {E : St → XK} {pins' : List (Addr × Obj)} (I : Inv (X.tryB pins E) pins' σ H s) : Inv { X with pn := X.pn ++ pins } pins' σ H s := Inv.unwish (X := { X with pn := X.pn ++ pins }) I
theorem passT {E : St → XK} : PassesS (CXe X.prog X.w) (X.tryB pins E) E := fun pins' σ H s e s' I h => ⟨pins', σ, H, s, I.ofTry, h⟩
theorem Inv.toHnd (I : Inv X pins σ H s) {a : Addr} {pn : List (Addr × Obj)} {xe : Value → Shared → Prop}
    (h : ∀ p ∈ pn, s.heap.get? p.1 = some p.2 ∧ H p.1 = none ∧ p.1 ≠ X.env.locals ∧ p.1 ∉ X.fs ∧ ∀ v, p.2.data ≠ .cell v) : Inv (X.hnd a pn xe) [] σ H s :=
  ⟨⟨I.ok.mod, I.ok.kind, I.ok.glob, I.ok.blt, I.ok.above, I.ok.inj, I.ok.has, I.ok.cab, fun z => (Bool.false_ne_true z).elim, I.ok.frames, I.ok.stk, I.ok.exf, I.ok.bs, I.ok.bsz, I.ok.noex, I.ok.exfs, I.ok.funs, I.ok.frf⟩,
    I.os, I.bare, I.base, I.loc, I.cell, I.free, I.freeC, fun p hp => h p (by rw [List.append_nil] at hp; exact hp), I.hok, I.len⟩
theorem Inv.ofHnd {a : Addr} {pn pins' : List (Addr × Obj)} {xe : Value → Shared → Prop} (hc : X.calm = true → X.A.handled = none) (hp : ∀ p ∈ X.pn ++ pins, p ∈ pn) (I : Inv (X.hnd a pn xe) pins' σ H s) : Inv X pins σ H s :=
  ⟨⟨I.ok.mod, I.ok.kind, I.ok.glob, I.ok.blt, I.ok.above, I.ok.inj, I.ok.has, I.ok.cab, hc, I.ok.frames, I.ok.stk, I.ok.exf, I.ok.bs, I.ok.bsz, I.ok.noex, I.ok.exfs, I.ok.funs, I.ok.frf⟩,
    I.os, I.bare, I.base, I.loc, I.cell, I.free, I.freeC, fun p h => I.pin p (List.mem_append_left _ (hp p h)), I.hok, I.len⟩

/-- the ends of a suite: the name goes behind it -/
def endsGo (D : Ends) (i : Nat) : Ends := { nx := fun σ H => D.nx (σ.set i none) H, rt := D.rt, bk := fun σ H => D.bk (σ.set i none) H, ct := fun σ H => D.ct (σ.set i none) H }
/-- what is wanted of an exception of the body: the suite's reading -/
def exWish (K : PySem.W.Frag) (CD : Addr) (i : Nat) (ts : Addr → Addr → TS) (D : Ends) : St → XK := fun σ cls _ H => ∃ C, cls = .ref C ∧ PySem.W.exmOne K (.ref C) (.ref CD) = some true ∧ XCls K C ∧
  ∀ a, H a = none → ts a C (endsGo D i) (σ.set i (some (.ref a))) H
def tTry (K : PySem.W.Frag) (CD : Addr) (i : Nat) (tb : (St → XK) → TS) (ts : Addr → Addr → TS) : TS := fun D σ H => tb (exWish K CD i ts D) D σ H

theorem ps_try {body suite : List Stmt} {b₀ : Stmt} {x n : Str} {i : Nat} {CD : Addr} {np hpos pos : Pos} {tb : (St → XK) → TS} {ts : Addr → Addr → TS} (hm : X.mg x = some (.ref CD)) (hg : Gl X x) (hN : X.N.Nodup) (hi : X.N[i]? = some n) (hk : X.env.kindOf n = some .local)
    (hst : X.stack = X.env :: X.outer) (hfr : X.env.frame = some X.env.locals) (hb : ∀ (pins : List (Addr × Obj)) (E : St → XK), PSs (X.tryB pins E) body (tb E))
    (hs : ∀ (a C : Addr) (oe : Obj) (pn : List (Addr × Obj)) (xe : Value → Shared → Prop), (a, oe) ∈ pn → oe.cls = .ref C → PySem.W.notCls oe = true → oe.dict = none → XCls X.K C → PSs (X.hnd a pn xe) (b₀ :: suite) (ts a C))
    (hdb : (x == ("__debug__" : Str)) = false := by decide) :
    PS X (.Try body [.ExceptHandler (some (.Name x np)) (some n) (b₀ :: suite) hpos] [] [] pos) (tTry X.K CD i tb ts) := by
  intro pins s σ H D I h
  refine wpAny_Try_except (wpAny_mono (hb pins _ [] s σ H D (I.toTry _) h) (fun fl s1 q => ?_) fun e s1 q => ?_)
  · cases fl with
    | next => obtain ⟨σ', H', I', q⟩ := q; exact wpAny_execs_nil ⟨σ', H', I'.ofTry.pn2, q⟩
    | brk => obtain ⟨σ', H', I', q⟩ := q; exact ⟨σ', H', I'.ofTry.pn2, q⟩
    | cont => obtain ⟨σ', H', I', q⟩ := q; exact ⟨σ', H', I'.ofTry.pn2, q⟩
    | ret u => obtain ⟨v, σ', H', I', r, q⟩ := q; exact ⟨v, σ', H', I'.ofTry.pn2, r, q⟩
  obtain ⟨pins', σ', H1, s0, I1', a, cls, H', rfl, os, bare, fl, C, rfl, hx, xc, q⟩ := q
  have I1 : Inv X pins σ' H1 s0 := I1'.pn2
  have hfs : ∀ b ∈ frs X.stack, H' b = none := fun b hb => by
    obtain ⟨_, o, ho, _⟩ := I1.stack.mem hb
    exact fl.un.free b o ho (I1.stkFree b hb) (by simp)
  have at_ : ∀ (h : Heap) (fv : Value), Fl X.prog X.w (frs X.stack) H1 s0.heap H' h a (.ref C) fv → Inv X pins σ' H' { s1 with heap := h } := fun h fv z =>
    I1.call' (s' := { s1 with heap := h }) (ch := []) os z.un z.hok bare fun b z => absurd z (by simp)
  refine fly_note1 (D := Wd s0.heap H') (L := X.env.locals) (by rw [I1.ok.frames, hst]) (hst ▸ (at_ _ _ fl).stack) hfr fl.tr fl.dom fun h2 k2 t2 => ?_
  have f2 := fl.kp hfs (hst ▸ k2) t2
  refine fly_land (s := { s1 with heap := h2 }) (fs := frs X.stack) f2.tr fun h3 k3 _ t3 => ?_
  have f3 := f2.kp hfs k3 t3
  have I3 := at_ h3 _ f3
  have J3 : Inv (X.hnd a [] fun _ _ => False) [] σ' H' { s1 with heap := h3 } := I3.toHnd fun p z => absurd z (by simp)
  refine wpAny_handleBy_cons (codeAny_handlers_test (ld_glob (X := X.hnd a [] fun _ _ => False) J3 hg hm ?_ hdb)) (by intro z; cases z)
  obtain ⟨oe, vs, T, oT, ts', he, hcl, hdn, hd, h1, hDe, rest⟩ := f3.tr
  refine (PySem.W.exm_one (M := model X.prog X.w) (h := h3) I3.kIn (hcl ▸ (PySem.W.Looks.ld he).andThen .now) hx).at ?_
  refine codeAny_handlers_suite_as ?_
  refine fly_land (s := { s1 with heap := h3 }) (fs := frs X.stack) f3.tr fun h4 k4 e4 t4 => ?_
  have f4 := f3.kp hfs k4 t4
  have I4 := at_ h4 _ f4
  have he4 := e4 oe he
  have hH : H' a = none := by
    cases z : H' a with
    | none => rfl
    | some u => exact (hDe (.inr ⟨u, z⟩)).elim
  have hpin : ∀ p ∈ X.pn ++ pins ++ [(a, oe)], ({ s1 with heap := h4 } : Shared).heap.get? p.1 = some p.2 ∧ H' p.1 = none ∧ p.1 ≠ X.env.locals ∧ p.1 ∉ X.fs ∧ ∀ v, p.2.data ≠ .cell v := fun p hp => by
    rcases List.mem_append.mp hp with z | z
    · exact I4.pin p z
    · have z' : p = (a, oe) := by simpa using z
      subst z'
      refine ⟨he4, hH, fun z => ?_, fun z => ?_, fun v z => ?_⟩
      · obtain ⟨m, ⟨o, _, _, ho, _⟩, _⟩ := I1.loc
        exact hDe (.inl ⟨o, (show a = X.env.locals from z) ▸ ho⟩)
      · obtain ⟨_, o, ho, _⟩ := I1.funs.mem z
        exact hDe (.inl ⟨o, ho⟩)
      · have z' : oe.data = .cell v := z
        rw [hd] at z'; cases z'
  have J4 : Inv (X.hnd a (X.pn ++ pins ++ [(a, oe)]) fun _ _ => False) [] σ' H' { s1 with heap := h4 } := I4.toHnd hpin
  refine store_ok (X := X.hnd a (X.pn ++ pins ++ [(a, oe)]) fun _ _ => False) J4 hN hi (.inl hk) (v := .ref a) rfl (fun s5 J5 => ?_) (.inr hk)
  have bk : ∀ {xe : Value → Shared → Prop} {σ6 : St} {H6 : Hp} {s6 : Shared}, Inv (X.hnd a (X.pn ++ pins ++ [(a, oe)]) xe) [] σ6 H6 s6 → Inv X pins σ6 H6 s6 := fun J => J.ofHnd I.ok.hd fun p hp => List.mem_append_left _ hp
  refine wpAny_mono (hs a C oe (X.pn ++ pins ++ [(a, oe)]) _ (List.mem_append_right _ (List.mem_singleton.mpr rfl)) hcl (by unfold PySem.W.notCls; rw [hd]) hdn xc [] s5 _ H' (endsGo D i) (J5.wish _) (q a hH)) (fun f6 s6 q6 => ?_) fun _ _ z => z
  cases f6 with
  | next => obtain ⟨σ6, H6, J6, q6⟩ := q6; exact name_goes (bk J6) hN hi hk fun s7 I7 => ⟨_, H6, I7, q6⟩
  | brk => obtain ⟨σ6, H6, J6, q6⟩ := q6; exact name_goes (bk J6) hN hi hk fun s7 I7 => ⟨_, H6, I7, q6⟩
  | cont => obtain ⟨σ6, H6, J6, q6⟩ := q6; exact name_goes (bk J6) hN hi hk fun s7 I7 => ⟨_, H6, I7, q6⟩
  | ret u => obtain ⟨v, σ6, H6, J6, r6, q6⟩ := q6; exact name_goes (bk J6) hN hi hk fun s7 I7 => ⟨v, _, H6, I7, r6, q6⟩
end

/-! ### defs that may end in an exception -/
def HasE (P : Program) (w : World) (K : PySem.W.Frag) (mg : Str → Option Value) (base : Heap) (k : Nat) (x : Str) (ps : List Str) (sp : Sp) : Prop :=
  ∃ a fd, PySem.W.keepIn K (.ref a) = true ∧ Binds K fd ps [] ∧ mg x = some (.ref a) ∧ FnOk P w K mg base (CXe P w) k a fd ps sp
section
variable {P : Program} {w : World} {K : PySem.W.Frag} {mg : Str → Option Value} {base : Heap}
theorem DefIs.hasE {x : Str} {st : Stmt} {N ps : List Str} {k : Nat} {sp : Sp} (D : DefIs K mg x st ps) (S : FnScope N ps (defScope st)) (len : ∀ vs H Q E, sp vs H Q E → vs.length = ps.length)
    (hbody : ∀ (f : Addr) (cdv : Value) (A : Around) (outer : List Env) (s : Shared) (H : Hp) (vs : List V) (Q : VK) (E : XK), Room k (A.deeper (envOfC x (defScope st) s.heap.objs.size f cdv)) → sp vs H Q E →
      ∃ t, PSs (cxE P w K mg base N x (defScope st) f cdv A outer s H E) (defBody st) t ∧ t { nx := fun _ H' => Q .non H', rt := Q } (start N vs) H) : HasE P w K mg base (k + 1) x ps sp := by
  obtain ⟨a, fd, F, b, m⟩ := D
  refine ⟨a, fd, F.kp, b, m, ?_⟩
  obtain ⟨oc, od, kV, doc, pm, an, cdv, ct, osl, rfl, lk, hcd⟩ := F.ex
  exact fn_of lk hcd S len fun A outer s H vs Q E hr h => hbody a cdv A outer s H vs Q E hr h
end
theorem pe_fnE {X : Cx} {k : Nat} {x : Str} {ps : List Str} {sp : Sp} {E : St → XK} {p pos : Pos} {e : Expr} {es : List Expr} {t : TA} (h : HasE X.prog X.w X.K X.mg X.base k x ps sp) (hr : Room k X.A) (hg : Gl X x) (hx : PassesS (CXe X.prog X.w) X E) (ha : PA X (e :: es) t)
    (hdb : (x == ("__debug__" : Str)) = false := by decide) (he : starEach (e :: es) X.env = (false, eval e X.env) :: starEach es X.env := by rfl) (hpl : (backTo pos (starEach es X.env)).any (·.1) = false := by rfl) :
    PE X (.Call (.Name x p) (e :: es) [] pos) (tCallS sp E t) := by
  obtain ⟨a, fd, h1, h2, h3, h4⟩ := h
  exact pe_callS h4 hr hg h3 h1 h2 hx ha hdb he hpl
end L2

namespace L2
open PySem PySem.Spec PyProof.Rows
section
variable {X : Cx} {a C : Addr} {oe : Obj} {pn : List (Addr × Obj)} {xe : Value → Shared → Prop} {K : PySem.W.Frag}
/-- isinstance of the exception that is caught -/
theorem call_isxH (hK : X.K = K) (hp : (a, oe) ∈ pn) (hc : oe.cls = .ref C) (hn : PySem.W.notCls oe = true) (hd : oe.dict = none) (G : XCls X.K C) :
    CallR (X.hnd a pn xe) (.builtin "isinstance") (fun xs H Q => ∃ (c : V) (u : Value) (b : Bool), xs = [.ref a, c] ∧ (∀ v, RelV c v → v = u) ∧ PySem.W.kitOne K (.ref C) u = some b ∧ Q (.bl b) H) :=
  hK ▸ call_isx (X := X.hnd a pn xe) hp hc hn hd G
theorem call_isxHT (hK : X.K = K) (hp : (a, oe) ∈ pn) (hc : oe.cls = .ref C) (hn : PySem.W.notCls oe = true) (hd : oe.dict = none) (G : XCls X.K C) :
    CallR (X.hnd a pn xe) (.builtin "isinstance") (fun xs H Q => ∃ (p : Addr) (cs : List V) (us : List Value) (b : Bool), xs = [.ref a, .ref p] ∧ H p = some (.tup cs) ∧ (∀ vs, Vals cs vs → vs = us) ∧ PySem.W.kitAny K (.ref C) us = some b ∧ Q (.bl b) H) :=
  hK ▸ call_isxT (X := X.hnd a pn xe) hp hc hn hd G
end
end L2

namespace L2
open PySem PySem.Spec PyProof.Rows
section
variable {X : Cx} {tg : Expr}
end
end L2

namespace L2
open PySem PySem.Spec PyProof.Rows

/-! ### several new objects at once; a code table that grows -/
section
variable {P : Program} {w : World} {fs ex : List Addr} {H H' : Hp} {h h' : Heap} {a : Addr} {ps more : Array Value}
end

/-! ### a lambda -/
end L2

namespace L2
open PySem PySem.Spec PyProof.Rows

/-! ### two tuples, the first that differs tells -/
section
open PySem.SeqAt
open PySem.AutoSeq1 (wpAny_loadPart')
open PySem.MeetsSeq PySem.MeetsSeq2 PySem.MeetsSeq3
end
section
variable {X : Cx} {pins : List (Addr × Obj)} {σ : St}
end

/-! ### min(xs, key=lambda .., default=d) -/
section
variable {X : Cx} {x : Str} {p pos : Pos} {e : Expr} {es : List Expr} {kws : List Keyword} {t tk : TA} {id : String} {ks : List Str} {r : St → List V → List V → Hp → VK → Prop}
end

end L2

namespace L2
open PySem PySem.Spec PyProof.Rows

section
variable {X : Cx}
end

/-! ### classes of the text, by their names -/
/-! ### a def whose code object is known (its table takes the codes of its lambdas) -/
/-! ### the law's head, where a code table may grow -/
end L2

namespace L2
open PySem PySem.Spec PyProof.Rows
variable {X : Cx}
end L2

namespace L2
open PySem PySem.Spec PyProof.Rows
variable {X : Cx}
/-! ### texts (for the notes: k10, k11) -/
theorem mt_starts : MtR X "str.startswith" (fun x xs H Q => ∃ a b, x = .str a ∧ xs = [.str b] ∧ Q (.bl (Txt.startswith a b)) H) := by
  intro pins s σ H x xs v us Q I rx rv h
  obtain ⟨a, b, rfl, rfl, q⟩ := h
  obtain ⟨t, rfl⟩ := rx
  obtain ⟨u, rfl, ru⟩ := vals1 rv
  obtain ⟨t2, rfl⟩ := ru
  exact SC.startswith (fin_bl I q rfl)
theorem vals_strs : ∀ {ts : List Str} {vs : List Value}, Vals (ts.map V.str) vs → ∃ l : List (Str × Tok), vs = strValues l ∧ l.map (·.1) = ts
  | [], _, .nil => ⟨[], rfl, rfl⟩
  | t :: ts, _, .cons r q => by
    obtain ⟨k, rfl⟩ := r
    obtain ⟨l, rfl, e⟩ := vals_strs q
    exact ⟨(t, k) :: l, rfl, by rw [List.map_cons, e]⟩
theorem mt_join : MtR X "str.join" (fun x xs H Q => ∃ a p ts, x = .str a ∧ xs = [.ref p] ∧ SqL X.K H p (ts.map V.str) ∧ JoinOk a ts = true ∧ Q (.str (Txt.join a ts)) H) := by
  intro pins s σ H x xs v us Q I rx rv h
  obtain ⟨a, p, ts, rfl, rfl, hp, hok, q⟩ := h
  obtain ⟨t, rfl⟩ := rx
  obtain ⟨u, rfl, ru⟩ := vals1 rv
  cases ru
  obtain ⟨its, r, pl, hz⟩ := I.list hp
  obtain ⟨l, rfl, e⟩ := vals_strs r
  exact SC.join pl.isList e hok fun t' k => ⟨.str _, H, I.tok _, ⟨_, rfl⟩, q⟩
/-- int(text), of a text that is a whole number -/
theorem call_int_text : CallR X (.type "int") (fun xs H Q => ∃ x n, xs = [.str x] ∧ intText? x = some n ∧ x.length ≤ 640 ∧ Q (.int n) H) := by
  intro pins s σ H xs us Q I r h
  obtain ⟨x, n, rfl, hn, hl, q⟩ := h
  obtain ⟨u, rfl, t, rfl⟩ := vals1 r
  exact PySem.W.KIN.call_text hn hl ⟨.int n, H, I.tok _, ⟨_, rfl⟩, q⟩
/-- text[i:], text[:j] -/
theorem sl_str : SlR X (fun x lo hi H Q => ∃ a, x = .str a ∧ a.length ≤ sizeLine ∧ Q (.str (Txt.slice a lo hi)) H) := by
  intro pins s σ H x v vl vu lo hi sl Q I rx hs pl pu h
  obtain ⟨a, rfl, hz, q⟩ := h
  obtain ⟨t, rfl⟩ := rx
  refine ⟨"str", _, F.slot_str_getitem.lookup, typeIs_str _ _ _, ?_⟩
  obtain ⟨l, el, rfl⟩ : ∃ l : Option (Int × Tok), vl = partValue l ∧ l.map (·.1) = lo := by
    cases pl
    · exact ⟨none, rfl, rfl⟩
    · exact ⟨some (_, _), rfl, rfl⟩
  obtain ⟨u, eu, rfl⟩ : ∃ u : Option (Int × Tok), vu = partValue u ∧ u.map (·.1) = hi := by
    cases pu
    · exact ⟨none, rfl, rfl⟩
    · exact ⟨some (_, _), rfl, rfl⟩
  subst el eu
  refine wpAny_getItem_str_slice (l := l) (u := u) (st := none) hs rfl (post_val_or_str ⟨Nat.le_trans (Txt.slice_le a _ _) hz, fun t' k => ⟨.str _, H, I.tok _, ⟨_, rfl⟩, q⟩⟩)
theorem vals_of_strs : ∀ l : List (Str × Tok), Vals ((l.map (·.1)).map V.str) (strValues l)
  | [] => .nil
  | (x, t) :: l => .cons ⟨t, rfl⟩ (vals_of_strs l)
open Builtin.Str in
/-- text.split(sep) -/
theorem mt_split : MtR X "str.split" (fun x xs H Q => ∃ a b, x = .str a ∧ xs = [.str b] ∧ (b.length == 0) = false ∧ a.length ≤ sizeLine ∧ (partsBetween a (occurrences a b 0 a.length (a.length + 1)) b.length).length ≤ sizeLine ∧
    ∀ l, H l = none → Q (.ref l) (upd H l (.lst ((Txt.split a b).map V.str)))) := by
  intro pins s σ H x xs v us Q I rx rv h
  obtain ⟨a, b, rfl, rfl, hy, hsz, hsz2, q⟩ := h
  obtain ⟨t, rfl⟩ := rx
  obtain ⟨w', rfl, ru⟩ := vals1 rv
  obtain ⟨u, rfl⟩ := ru
  have go : ∀ (l : List (Str × Tok)) (tk : Nat), l.map (·.1) = Txt.split a b → l.length ≤ sizeLine → EP X pins σ Q (.ref s.heap.objs.size) { s with heap := s.heap.push { cls := .type "list", data := .seq (strValues l).toArray }, toks := tk } := fun l tk e hl =>
    ⟨.ref s.heap.objs.size, _, I.laid (t' := tk) (fun b o e1 => Heap.get?_push_of_some _ e1) (Nat.le_refl _) (show ObjOk X.prog X.w _ _ _ (.lst ((Txt.split a b).map V.str)) from ⟨by rw [List.length_map, ← e, List.length_map]; exact hl, strValues l, _, by rw [← e]; exact vals_of_strs l, Heap.get?_push_size _ rfl⟩), rfl, q _ (I.hok.fresh (Nat.le_refl _))⟩
  cases h1 : (decide (a.length < b.length) || decide (strKind a < strKind b))
  · cases hf : (occurrences a b 0 a.length (a.length + 1)).isEmpty
    · refine call_meets F.slot_str_split (typeIs_str _ _ _) F.entry_str_split (F.args_str_split_2 _ _) (meets_str_split_sep a b t u h1 hy hf hsz hsz2) ?_
      show EP X pins σ Q _ { s with toks := _, heap := s.heap.push { cls := .type "list", data := .seq (strsFrom s.toks (partsBetween a (occurrences a b 0 a.length (a.length + 1)) b.length)).toArray } }
      rw [strsFrom_eq]
      exact go (numbered s.toks _) _ ((numbered_texts _ _).trans ((if_neg (ne_true_of_eq_false h1)).trans (if_neg (ne_true_of_eq_false hf))).symm) (by
        have := congrArg List.length (numbered_texts s.toks (partsBetween a (occurrences a b 0 a.length (a.length + 1)) b.length))
        rw [List.length_map] at this
        omega)
    · exact call_meets F.slot_str_split (typeIs_str _ _ _) F.entry_str_split (F.args_str_split_2 _ _) (meets_str_split_not_found a b t u h1 hy hf)
        (go [(a, t)] _ ((if_neg (ne_true_of_eq_false h1)).trans (if_pos hf)).symm (by show 1 ≤ sizeLine; decide))
  · exact call_meets F.slot_str_split (typeIs_str _ _ _) F.entry_str_split (F.args_str_split_2 _ _) (meets_str_split_cannot_occur a b t u h1)
      (go [(a, t)] _ (if_pos h1).symm (by show 1 ≤ sizeLine; decide))
/-- the signs of a text -/
def Its (a : Str) : It := ⟨fun i _ => i < a.cps.size, fun i H x H' => H' = H ∧ ∃ c, a.cps[i]? = some c ∧ x = .str ⟨#[c]⟩, fun i _ => a.cps.size ≤ i⟩
theorem turn_str {P : Program} {w : World} {K : PySem.W.Frag} {tg : Expr} (a : Str) (t : Tok) (it : Addr) : Turn P w K tg (Its a) [it] it (fun i h => h.IsStrIter it "str_ascii_iterator" a t i ∧ i ≤ a.cps.size) where
  mem := by simp
  obj := fun i h st b hb => by
    have e : b = it := by simpa using hb
    subst e
    obtain ⟨o, e, c, d⟩ := st.1
    exact ⟨o, e, fun v z => by rw [d] at z; cases z⟩
  keep := fun i h h' st k => by
    obtain ⟨⟨o, e, r⟩, hi⟩ := st
    exact ⟨⟨o, k it (by simp) o e, r⟩, hi⟩
  item := by
    intro X hP hw hK hc i pins s σ H E I hf st hg
    subst hP hw hK
    obtain ⟨f0, f1, f2, f3, f4, f5⟩ := hf it (by simp)
    refine (Walks.strAscii (I.ok.hd hc) it a t).item i s _ E hg st.1 fun v h' tk hv st' kk => ?_
    obtain ⟨c, u, hc', rfl⟩ := hv
    have I1 : Inv X pins σ H { s with heap := h', toks := tk } := I.turned (t' := tk) (fun b o hb e => kk b o (by simpa using hb) e) f0 f1 f3 f4 f5
    obtain ⟨o, e, c1, d⟩ := id st'
    exact ⟨_, rfl, go_of (s := { s with heap := h', toks := tk }) e c1 d (by decide) ⟨.str ⟨#[c]⟩, H, I1, ⟨_, rfl⟩, ⟨rfl, c, hc', rfl⟩, ⟨st', hg⟩, fun b hb => (hf b hb).1⟩⟩
  done := by
    intro X hP hw hK hc i pins s σ H E I hf st hg
    subst hP hw hK
    obtain ⟨f0, f1, f2, f3, f4, f5⟩ := hf it (by simp)
    have hi : i = a.cps.size := Nat.le_antisymm st.2 hg
    subst hi
    exact (Walks.strAscii (I.ok.hd hc) it a t).done s _ E st.1 fun h' tk kk => ⟨rfl, I.turned (t' := tk) (fun b o hb e => kk b o (by simpa using hb) e) f0 f1 f3 f4 f5⟩
  self := fun _ _ _ _ _ st h => wpAny_pyIter_striter_ascii st.1 h
theorem pi_str {tg l : Expr} {tl : TE} (hl : PE X l tl) : PI X tg l (fun σ H R => tl σ H fun x H1 => ∃ a, x = .str a ∧ a.cps.all (· < 128) = true ∧ R (Its a) H1) := by
  intro pins s σ H R I h
  refine thn (hl pins s σ H _ I h) fun v s1 ⟨x, H1, I1, r1, q1⟩ => ?_
  obtain ⟨a, rfl, ha, q⟩ := q1
  obtain ⟨t, rfl⟩ := r1
  refine wpAny_pyIter_strU ?_
  have et : strIterType a = "str_ascii_iterator" := if_pos ha
  rw [et]
  refine ⟨s1.heap.objs.size, [s1.heap.objs.size], _, _, H1, rfl, I1.kept (t' := s1.toks) fun b o e => Heap.get?_push_of_some _ e, turn_str a t _, ⟨⟨_, Heap.get?_push_size _ rfl, rfl, rfl⟩, Nat.zero_le _⟩, fun b hb => ?_, q⟩
  have e : b = s1.heap.objs.size := by simpa using hb
  subst e
  exact I1.fpOk (Nat.le_refl _) (I1.hok.fresh (Nat.le_refl _))
end L2

namespace L2
open PySem PySem.Spec PyProof.Rows
/-! ### the mathematics of the notes: what is a count, a number, a cost, a line -/
abbrev sg (x : Str) : List Nat := x.cps.toList
theorem sg_inj {x y : Str} (h : sg x = sg y) : x = y := Str.ext' (Array.toList_inj.mp h)
theorem sg_len (x : Str) : (sg x).length = x.length := Array.length_toList
theorem sg_app (x y : Str) : sg (x ++ y) = sg x ++ sg y := by
  show (x ++ y).cps.toList = _
  rw [Str.cps_append, Array.toList_append]
def isDig (c : Nat) : Bool := decide (48 ≤ c ∧ c ≤ 57)
def isCountL (cs : List Nat) : Bool := !cs.isEmpty && cs.all isDig && (decide (cs = [48]) || !decide (cs.head? = some 48))
def isNumL : List Nat → Bool
  | 45 :: r => !decide (r = [48]) && isCountL r
  | cs => isCountL cs
def numVal : List Nat → Int
  | 45 :: r => -((NumText.digitsVal r : Nat) : Int)
  | cs => ((NumText.digitsVal cs : Nat) : Int)
def costOf (cs : List Nat) : Option (Option Int) := if cs = [110, 111] then some none else if isNumL cs = true then some (some (numVal cs)) else none
theorem allDig {cs : List Nat} (h : cs.all isDig = true) : NumText.AllDigits cs := fun c hc => of_decide_eq_true (List.all_eq_true.mp h c hc)
theorem isCount_parts {cs : List Nat} (h : isCountL cs = true) : cs ≠ [] ∧ NumText.AllDigits cs := by
  unfold isCountL at h
  rw [Bool.and_eq_true, Bool.and_eq_true] at h
  refine ⟨fun e => ?_, allDig h.1.2⟩
  rw [e] at h
  exact absurd h.1.1 (by decide)
theorem num_text {x : Str} (h : isNumL (sg x) = true) (hl : x.length ≤ 640) : intText? x = some (numVal (sg x)) := by
  unfold isNumL at h
  split at h
  · rename_i r e
    rw [Bool.and_eq_true] at h
    obtain ⟨h1, h2⟩ := isCount_parts h.2
    rw [e]
    exact intText_neg e h2 h1 (by omega)
  · rename_i hne
    obtain ⟨h1, h2⟩ := isCount_parts h
    have e : numVal (sg x) = ((NumText.digitsVal (sg x) : Nat) : Int) := by
      unfold numVal
      split
      · rename_i r e; exact absurd e (hne r)
      · rfl
    rw [e]
    exact intText_digits h2 h1 (by omega)
theorem count_num {cs : List Nat} (h : isCountL cs = true) : isNumL cs = true ∧ numVal cs = ((NumText.digitsVal cs : Nat) : Int) := by
  obtain ⟨h1, h2⟩ := isCount_parts h
  have hne : ∀ r, cs ≠ 45 :: r := fun r e => by
    have := h2 45 (by rw [e]; exact List.mem_cons_self)
    omega
  constructor
  · unfold isNumL
    split
    · rename_i r; exact absurd rfl (hne r)
    · exact h
  · unfold numVal
    split
    · rename_i r; exact absurd rfl (hne r)
    · rfl

/-! ### the text of a whole number -/
/-! ### lines -/
section
open Builtin Builtin.Str StrLaws
theorem occ_filter (x : Str) (c : Nat) : ∀ (k a free : Nat) (acc : Array Nat), free ≤ a → acc.size ≤ a → a + k ≤ x.length + 1 →
    (forIn (List.range' a k) (acc, free) (occBody x ⟨#[c]⟩ x.length (x.length + 1))).run.fst.toList = acc.toList ++ (List.range' a k).filter fun i => decide ((sg x)[i]? = some c)
  | 0, a, free, acc, _, _, _ => by
    show acc.toList = acc.toList ++ []
    rw [List.append_nil]
  | k + 1, a, free, acc, hf, hs, hk => by
    have r : List.range' a (k + 1) = a :: List.range' (a + 1) k := rfl
    rw [r, List.forIn_cons, List.filter_cons]
    unfold occBody
    by_cases hc : (sg x)[a]? = some c
    · obtain ⟨h1, h2⟩ := (subAt_one x c a).mpr hc
      rw [if_pos ⟨⟨⟨by dsimp only; omega, hf⟩, h1⟩, h2⟩, decide_eq_true hc, if_pos rfl]
      have ih := occ_filter x c k (a + 1) (a + 1) (acc.push a) (Nat.le_refl _) (by rw [Array.size_push]; omega) (by omega)
      rw [Array.toList_push, List.append_assoc] at ih
      exact ih
    · rw [if_neg (fun z => hc ((subAt_one x c a).mp ⟨z.1.2, z.2⟩)), decide_eq_false hc]
      exact occ_filter x c k (a + 1) free acc (by omega) (by omega) (by omega)
theorem occ_one (x : Str) (c : Nat) : occurrences x ⟨#[c]⟩ 0 x.length (x.length + 1) = (List.range' 0 (x.length + 1)).filter fun i => decide ((sg x)[i]? = some c) := by
  rw [occ_eq]
  have := occ_filter x c (x.length + 1) 0 0 #[] (Nat.le_refl _) (Nat.le_refl _) (by omega)
  simpa using this
theorem mem_sub {x : Str} {a b c : Nat} (h : c ∈ sg (strSub x a b)) : ∃ i, a ≤ i ∧ i < b ∧ (sg x)[i]? = some c := by
  unfold sg at h
  rw [strSub_toList] at h
  obtain ⟨j, hj⟩ := List.mem_iff_getElem?.mp h
  rw [List.getElem?_take] at hj
  split at hj
  · rw [List.getElem?_drop] at hj
    exact ⟨a + j, by omega, by omega, hj⟩
  · cases hj
theorem parts_free (x : Str) (c : Nat) : ∀ (k b a : Nat), a ≤ b → b + k = x.length + 1 → (∀ i, a ≤ i → i < b → (sg x)[i]? ≠ some c) → ∀ p ∈ partsFrom x 1 a ((List.range' b k).filter fun i => decide ((sg x)[i]? = some c)), c ∉ sg p
  | 0, b, a, hab, hk, hn, p, hp => by
    have hp' : p ∈ [strSub x a x.length] := hp
    have e := List.mem_singleton.mp hp'
    subst e
    intro hc
    obtain ⟨i, h1, h2, h3⟩ := mem_sub hc
    exact hn i h1 (by omega) h3
  | k + 1, b, a, hab, hk, hn, p, hp => by
    have r : List.range' b (k + 1) = b :: List.range' (b + 1) k := rfl
    rw [r, List.filter_cons] at hp
    by_cases hc : (sg x)[b]? = some c
    · rw [decide_eq_true hc, if_pos rfl] at hp
      rcases List.mem_cons.mp hp with e | e
      · subst e
        intro hm
        obtain ⟨i, h1, h2, h3⟩ := mem_sub hm
        exact hn i h1 h2 h3
      · exact parts_free x c k (b + 1) (b + 1) (Nat.le_refl _) (by omega) (fun i h1 h2 => by omega) p e
    · rw [decide_eq_false hc] at hp
      refine parts_free x c k (b + 1) a (by omega) (by omega) (fun i h1 h2 => ?_) p hp
      by_cases e : i = b
      · subst e; exact hc
      · exact hn i h1 (by omega)
theorem split_free (x : Str) (c : Nat) (h : Builtin.Str.strKind ⟨#[c]⟩ ≤ Builtin.Str.strKind x) : ∀ p ∈ Txt.split x ⟨#[c]⟩, c ∉ sg p := by
  intro p hp
  unfold Txt.split at hp
  split at hp
  · rename_i h1
    have e := List.mem_singleton.mp hp
    subst e
    rw [Bool.or_eq_true, decide_eq_true_eq, decide_eq_true_eq] at h1
    rcases h1 with h1 | h1
    · have h2 : p.length < 1 := h1
      intro hc
      have := List.length_pos_of_mem hc
      rw [sg_len] at this
      omega
    · omega
  · split at hp
    · rename_i h2
      have e := List.mem_singleton.mp hp
      subst e
      rw [occ_one] at h2
      intro hc
      obtain ⟨i, hi⟩ := List.mem_iff_getElem?.mp hc
      have hil := (List.getElem?_eq_some_iff.mp hi).1
      rw [sg_len] at hil
      have : i ∈ (List.range' 0 (p.length + 1)).filter fun i => decide ((sg p)[i]? = some c) := List.mem_filter.mpr ⟨by simp [List.mem_range']; omega, decide_eq_true hi⟩
      rw [List.isEmpty_iff.mp h2] at this
      exact absurd this (by simp)
    · rw [partsBetween_eq, occ_one] at hp
      exact parts_free x c (x.length + 1) 0 0 (Nat.le_refl _) (by omega) (fun i _ h => absurd h (Nat.not_lt_zero i)) p hp
theorem cut_eq {c : Nat} : ∀ {p q r s : List Nat}, c ∉ p → c ∉ q → p ++ c :: r = q ++ c :: s → p = q ∧ r = s
  | [], [], _, _, _, _, h => ⟨rfl, (List.cons.inj h).2⟩
  | [], b :: q, _, _, _, hq, h => absurd ((List.cons.inj h).1 ▸ List.mem_cons_self) hq
  | a :: p, [], _, _, hp, _, h => absurd ((List.cons.inj h).1 ▸ List.mem_cons_self) hp
  | a :: p, b :: q, _, _, hp, hq, h => by
    obtain ⟨h1, h2⟩ := List.cons.inj h
    obtain ⟨h3, h4⟩ := cut_eq (fun z => hp (List.mem_cons_of_mem _ z)) (fun z => hq (List.mem_cons_of_mem _ z)) h2
    exact ⟨by rw [h1, h3], h4⟩
theorem join_sg (c : Nat) (x y : Str) (r : List Str) : sg (Str.join ⟨#[c]⟩ (x :: y :: r)) = sg x ++ c :: sg (Str.join ⟨#[c]⟩ (y :: r)) := by
  show sg (x ++ ⟨#[c]⟩ ++ Str.join ⟨#[c]⟩ (y :: r)) = _
  rw [sg_app, sg_app, List.append_assoc]
  rfl
theorem join_inj (c : Nat) : ∀ {xs ys : List Str}, (∀ p ∈ xs, c ∉ sg p) → (∀ p ∈ ys, c ∉ sg p) → xs ≠ [] → ys ≠ [] → Str.join ⟨#[c]⟩ xs = Str.join ⟨#[c]⟩ ys → xs = ys
  | [], _, _, _, h, _, _ => absurd rfl h
  | _, [], _, _, _, h, _ => absurd rfl h
  | [x], [y], _, _, _, _, h => by
    have h' : x = y := h
    rw [h']
  | [x], y :: z :: r, hx, hy, _, _, h => by
    have h' : sg x = _ := (congrArg sg h).trans (join_sg c y z r)
    exact absurd (by rw [h']; exact List.mem_append_right _ List.mem_cons_self) (hx x List.mem_cons_self)
  | x :: z :: r, [y], hx, hy, _, _, h => by
    have h' : sg y = _ := (congrArg sg h.symm).trans (join_sg c x z r)
    exact absurd (by rw [h']; exact List.mem_append_right _ List.mem_cons_self) (hy y List.mem_cons_self)
  | x :: z :: r, y :: u :: s, hx, hy, _, _, h => by
    have h' := (join_sg c x z r).symm.trans ((congrArg sg h).trans (join_sg c y u s))
    obtain ⟨h1, h2⟩ := cut_eq (hx x List.mem_cons_self) (hy y List.mem_cons_self) h'
    have h3 := join_inj c (fun p hp => hx p (List.mem_cons_of_mem _ hp)) (fun p hp => hy p (List.mem_cons_of_mem _ hp)) (List.cons_ne_nil _ _) (List.cons_ne_nil _ _) (sg_inj h2)
    rw [sg_inj h1, h3]
theorem split_ne (x y : Str) : Txt.split x y ≠ [] := by
  unfold Txt.split
  split
  · exact List.cons_ne_nil _ _
  · split
    · exact List.cons_ne_nil _ _
    · rw [partsBetween_eq]
      obtain ⟨p, r, e⟩ := partsFrom_ne x y.length 0 (occurrences x y 0 x.length (x.length + 1))
      rw [e]
      exact List.cons_ne_nil _ _
theorem kind_one (x : Str) (c : Nat) (h : c < 128) : Builtin.Str.strKind ⟨#[c]⟩ ≤ Builtin.Str.strKind x := by
  have e : Builtin.Str.strKind ⟨#[c]⟩ = 1 := if_pos (by simp; omega)
  rw [e]
  unfold Builtin.Str.strKind
  split
  · decide
  · split <;> decide
theorem split_join {xs : List Str} (h : ∀ p ∈ xs, 44 ∉ sg p) (hne : xs ≠ []) : Txt.split (Str.join "," xs) "," = xs :=
  join_inj 44 (split_free _ 44 (kind_one _ 44 (by decide))) h (split_ne _ _) hne (join_split _ _)
end
/-- a line's pieces -/
def pieces (x : Str) : List Str := if x = "" then [] else Txt.split x ","
end L2

namespace L2
open PySem PySem.Spec PyProof.Rows

/-! ### an exception out of a comprehension's element -/
theorem note_env {e : Value} {env env' : Env} (h : env.frame = env'.frame) : noteFrame e env = noteFrame e env' := by
  unfold noteFrame PySem.frameOf
  rw [h]
section
variable {M : Model} {A : Around} {E : Value → Shared → Prop} {s : Shared} {base : Heap} {D : Addr → Prop} {env : Env} {outer : List Env} {L e : Addr}
/-- a frame is noted, whatever the mark -/
theorem fly_noteA {cls fl : Value} {Q : Unit → Shared → Prop} (hfr : A.frames = some (env :: outer)) (hl : s.heap.FunFrames base (env :: outer)) (hf : env.frame = some L) (ht : Tr D s.heap e cls fl) (hD : ∀ b, D b → ∃ o, s.heap.get? b = some o)
    (h : ∀ h' fl', Kp (frs (env :: outer)) D s.heap h' → Tr D h' e cls fl' → Q () { s with heap := h' }) : wpAny M A (noteFrame (.ref e) env) Q E s :=
  fly_noteG hfr hl hf ht hD fun h' fl' kp tr _ => h h' fl' kp tr
theorem fly_leaveA {cls : Value} {Q : Unit → Shared → Prop} (hn : ∀ Q' : Unit → Shared → Prop, (∀ h' fl', Kp (frs (env :: outer)) D s.heap h' → Tr D h' e cls fl' → Q' () { s with heap := h' }) → wpAny M A (noteFrame (.ref e) env) Q' E s)
    (h : ∀ h', Kp (frs (env :: outer)) D s.heap h' → Tr D h' e cls .none → Q () { s with heap := h' }) : wpAny M A (leaving env (.ref e)) Q E s := by
  unfold leaving
  refine wpAny_bind (hn _ fun h1 fl1 k1 t1 => ?_)
  exact fly_land (s := { s with heap := h1 }) (fs := frs (env :: outer)) t1 fun h2 k2 _ t2 => h h2 (k1.trans k2) t2
/-- the flight's mark is set -/
theorem fly_mark {cls fl : Value} {fs : List Addr} {fr : Option Addr} {Q : Unit → Shared → Prop} (ht : Tr D s.heap e cls fl) (h : ∀ h', Kp fs D s.heap h' → Tr D h' e cls (fr.elim Value.none fun f => rawInt f) → Q () { s with heap := h' }) : wpAny M A (setFlight (.ref e) fr) Q E s := by
  obtain ⟨oe, vs, T, oT, ts, he, hc, hdn, hd, h1, hDe, hDT, hTe, hT, hdT, h3⟩ := ht
  have z3 : 3 < ts.size := (Array.getElem?_eq_some_iff.mp h3).1
  have other : ∀ b, b ≠ T → (s.heap.update T (Obj.mapFields (·.setIfInBounds 3 (fr.elim Value.none fun f => rawInt f)))).get? b = s.heap.get? b := fun b hb => Heap.get?_update_other _ _ (Ne.symm hb)
  unfold setFlight
  refine wpAny_bind (wpAny_field he hd h1 (wp_then (by simp) (wpAny_setField hT hdT z3 ?_)))
  refine (h _ (Kp.of fun b o d e => (other b fun z => hDT (z ▸ d)).trans e) ?_)
  exact ⟨oe, vs, T, _, _, (other e (Ne.symm hTe)).trans he, hc, hdn, hd, h1, hDe, hDT, hTe, Heap.get?_update_self _ hT (Obj.isFreed_of_fields (Obj.data_mapFields hdT _)), Obj.data_mapFields hdT _, by simp [z3]⟩
end
section
variable {P : Program} {w : World} {fs ex : List Addr} {H H' : Hp} {h0 h h' : Heap} {D : Addr → Prop}
theorem hok_kpX (hok : HOk P w H' h) (hfs : ∀ b ∈ fs, H' b = none) (hD : ∀ b u, H' b = some u → D b) (k : Kp fs D h h') : HOk P w H' h' := fun b o e =>
  (hok b o e).stay (fun c v hc q => by
    have hs : ∃ u, H' c = some u := by
      rcases hc with z | z
      · exact ⟨o, z ▸ e⟩
      · exact ⟨_, z⟩
    obtain ⟨u, hu⟩ := hs
    refine k.keep c v (hD c u hu) (fun z => ?_) q
    rw [hfs c z] at hu; cases hu) (fun _ q => q) fun _ _ q => q
theorem un_kpX (un : Un fs ex H H' h0 h) (hD : ∀ b o, h0.get? b = some o → b ∉ ex → D b) (k : Kp fs D h h') : Un fs ex H H' h0 h' where
  keep := fun b o e n hb hx => k.keep b o (hD b o e hx) hb (un.keep b o e n hb hx)
  slot := fun b o e n hb hx => by
    obtain ⟨sl, e1⟩ := un.slot b o e n hb hx
    obtain ⟨sl2, e2⟩ := k.slot b _ (hD b o e hx) e1
    exact ⟨sl2, e2⟩
  free := un.free
  there := fun b o e hx => by
    obtain ⟨o', e1⟩ := un.there b o e hx
    obtain ⟨sl, e2⟩ := k.slot b o' (hD b o e hx) e1
    exact ⟨_, e2⟩
  tups := un.tups
  frzs := un.frzs
  tbls := un.tbls
end
/-- an exception of whatever mark that leaves X here is what is wanted -/
def Leaves (X : Cx) (E : XK) : Prop := ∀ (pins : List (Addr × Obj)) (σ : St) (H : Hp) (s : Shared) (e : Addr) (cls fl : Value), Inv X pins σ H s → Tr (Wd X.s₀.heap H) s.heap e cls fl → E cls none H → X.xe (.ref e) s
section
variable {P : Program} {w : World} {K : PySem.W.Frag} {mg : Str → Option Value} {base : Heap} {N : List Str} {qual : Str} {scope : Scope} {f : Addr} {cd : Value} {A : Around} {outer : List Env} {s : Shared} {H : Hp} {E : XK}
theorem leaves_def : Leaves (cxE P w K mg base N qual scope f cd A outer s H E) E := by
  intro pins σ H' s' e cls fl I ht hE
  refine fly_leaveA (D := Wd s.heap H') (fun Q' k => fly_noteA (D := Wd s.heap H') (L := s.heap.objs.size) I.ok.frames I.stack rfl ht (fun b d => ?_) k) fun h' kp tr => ?_
  · rcases d with ⟨o, q⟩ | ⟨o, q⟩
    · exact I.base.there b o q (fun z => absurd (show b ∈ ([] : List Addr) from z) (by simp))
    · exact (I.hok b o q).there
  have nl : ∀ b, Wd s.heap H' b → b ≠ s.heap.objs.size := fun b d z => by
    rcases d with ⟨o, q⟩ | ⟨o, q⟩
    · exact Nat.lt_irrefl _ (z ▸ Heap.lt_size q)
    · have z2 : H' s.heap.objs.size = none := I.free
      rw [z, z2] at q; cases q
  have kp' : Kp (frs outer) (Wd s.heap H') s'.heap h' := ⟨fun b o d nb q => kp.keep b o d (fun hm => ?_) q, kp.slot⟩
  · exact ⟨e, cls, H', rfl, I.os, I.bare, ⟨un_kp I.base kp', hok_kp I.hok (fun b hb => I.stkFree b (List.mem_cons_of_mem _ hb)) kp', tr⟩, hE⟩
  · rcases List.mem_cons.mp (show b ∈ s.heap.objs.size :: frs outer from hm) with z | z
    · exact nl b d z
    · exact nb z
end
/-- the element's context: what an exception of it wants -/
def compCxE (X : Cx) (E : XK) (scope : Scope) (NN : List Str) (fp : List Addr) (pins : List (Addr × Obj)) (s : Shared) (H : Hp) (C : Addr) : Cx :=
  (compCx X scope NN fp pins s H C).wish fun v s' => ∃ pins' σ' H1 s1, Inv (compCx X scope NN fp pins s H C) pins' σ' H1 s1 ∧ CXe X.prog X.w X.stack H1 s1 E v s'
theorem passC {X : Cx} {E : XK} {scope : Scope} {NN : List Str} {fp : List Addr} {pins : List (Addr × Obj)} {s : Shared} {H : Hp} {C : Addr} : PassesS (CXe X.prog X.w) (compCxE X E scope NN fp pins s H C) (fun _ => E) :=
  fun pins' σ H s e s' I h => ⟨pins', σ, H, s, I.unwish, h⟩
section
variable {X : Cx} {pins : List (Addr × Obj)} {σ : St} {H : Hp} {s : Shared} {scope : Scope} {own fr : List Str} {js : List Nat} {E : XK}
theorem comp_exc {fp : List Addr} {C : Addr} {NN : List Str} {use : Option (Value → Sem Unit)} {Q : Value → Shared → Prop} {acc : Value} {v : Value} {s' : Shared} (hex : X.ex = []) (hst : X.stack = X.env :: X.outer) (hfm : X.env.frame = some X.env.locals) (Lv : Leaves X E)
    (I : Inv X pins σ H s) (f2 : ∀ b ∈ fp, FpOk X pins H b) (hC : s.heap.objs.size ≤ C)
    (hx : ∃ pins' σ' H1 s1, Inv (compCx X scope NN fp pins s H C) pins' σ' H1 s1 ∧ CXe X.prog X.w X.stack H1 s1 E v s') :
    notedBy (model X.prog X.w) X.A (compEnvC scope (clFrom X.env.cells scope.names []) C X.env) (fun x s'' => compPost (model X.prog X.w) X.A X.xe use Q acc C (.error x) s'') v s' := by
  obtain ⟨pins', σ', H1, s1, I1, a, cls, H', rfl, os, bare, fl, hE⟩ := hx
  have I2 : Inv (compCx X scope NN fp pins s H C) pins' σ' H' s' := I1.call' (ch := []) os fl.un fl.hok bare fun b z => absurd z (by simp)
  have hch : ∀ b ∈ fp, (b ∈ X.ex ∨ X.s₀.heap.objs.size ≤ b) ∧ b ≠ X.env.locals ∧ (∀ x c, X.env.cells.lookup x = some c → c ≠ b) ∧ ∀ p ∈ X.pn ++ pins, p.1 ≠ b := fun b hb => ⟨(f2 b hb).2.2.2.1, (f2 b hb).2.1, (f2 b hb).2.2.2.2.1, (f2 b hb).2.2.2.2.2⟩
  have IX : Inv X pins σ H' s' := I.call' I2.os I2.base I2.hok I2.bare hch
  have hCs : ∀ o, s.heap.get? C ≠ some o := fun o e => Nat.lt_irrefl _ (Nat.lt_of_lt_of_le (Heap.lt_size e) hC)
  have hCf : H' C = none := I2.free
  have hfs : ∀ b ∈ frs X.stack, H' b = none := fun b hb => IX.stkFree b hb
  have hCn : C ∉ frs X.stack := fun z => by
    obtain ⟨_, o, ho, _⟩ := I.stack.mem z
    exact hCs o ho
  let D : Addr → Prop := fun b => ((∃ o, s.heap.get? b = some o) ∧ b ∉ fp) ∨ (∃ o, H' b = some o) ∨ b = C
  have hlocC : ∃ o, s1.heap.get? C = some o := by
    obtain ⟨m, ⟨o, _, _, ho, _⟩, _⟩ := I1.loc
    exact ⟨o, ho⟩
  have hD1 : ∀ b, D b → Wd s1.heap H' b := fun b d => by
    rcases d with ⟨⟨o, q⟩, n⟩ | q | q
    · exact .inl (I1.base.there b o q n)
    · exact .inr q
    · exact .inl (q ▸ hlocC)
  have tr0 : Tr D s'.heap a cls .none := fl.tr.mono hD1
  have dom0 : ∀ b, D b → ∃ o, s'.heap.get? b = some o := fun b d => fl.dom b (hD1 b d)
  have hDu : ∀ b o, s.heap.get? b = some o → b ∉ fp → D b := fun b o e n => .inl ⟨⟨o, e⟩, n⟩
  have hDt : ∀ b u, H' b = some u → D b := fun b u e => .inr (.inl ⟨u, e⟩)
  have hDX : ∀ b, Wd X.s₀.heap H' b → D b := fun b d => by
    rcases d with ⟨o, q⟩ | q
    · obtain ⟨o', q'⟩ := I.base.there b o q (fun z => by rw [hex] at z; exact absurd z (by simp))
      refine .inl ⟨⟨o', q'⟩, fun z => ?_⟩
      rcases (f2 b z).2.2.2.1 with y | y
      · rw [hex] at y; exact absurd y (by simp)
      · exact Nat.lt_irrefl _ (Nat.lt_of_lt_of_le (Heap.lt_size q) y)
    · exact .inr (.inl q)
  unfold notedBy
  rw [show noteFrame (.ref a) (compEnvC scope (clFrom X.env.cells scope.names []) C X.env) = noteFrame (.ref a) X.env from note_env rfl]
  refine fly_noteA (D := D) (L := X.env.locals) (env := X.env) (outer := X.outer) (by rw [I.ok.frames, hst]) (hst ▸ IX.stack) hfm tr0 dom0 fun h1 fl1 k1 t1 => ?_
  rw [← hst] at k1
  obtain ⟨m, ⟨o, x1, x2, ho, rest⟩, _⟩ := I2.loc
  refine ⟨m, ⟨o, x1, x2, k1.keep C o (.inr (.inr rfl)) hCn ho, rest⟩, fun h2 hs2 cenv hce => ?_⟩
  have k2 : Kp (frs X.stack) (fun b => D b ∧ b ≠ C) h1 h2 := Kp.of fun b u d e => (hs2.2 b d.2).trans e
  obtain ⟨oe, vs, T, oT, ts, he, hc, hdn, hd, hv1, hDe, hDT, hTe, hT, hdT, h3⟩ := t1
  have hae : a ≠ C := fun z => hDe (.inr (.inr z))
  have hTC : T ≠ C := fun z => hDT (.inr (.inr z))
  have t2 : Tr (fun b => D b ∧ b ≠ C) h2 a cls fl1 := ⟨oe, vs, T, oT, ts, (hs2.2 a hae).trans he, hc, hdn, hd, hv1, fun z => hDe z.1, fun z => hDT z.1, hTe, (hs2.2 T hTC).trans hT, hdT, h3⟩
  have hDu' : ∀ b o, s.heap.get? b = some o → b ∉ fp → D b ∧ b ≠ C := fun b o e n => ⟨hDu b o e n, fun z => hCs o (z ▸ e)⟩
  have hDt' : ∀ b u, H' b = some u → D b ∧ b ≠ C := fun b u e => ⟨hDt b u e, fun z => by rw [z, hCf] at e; cases e⟩
  have u2 : Un (frs X.stack) fp H H' s.heap h2 := un_kpX (un_kpX I2.base hDu k1) hDu' k2
  have hok2 : HOk X.prog X.w H' h2 := hok_kpX (hok_kpX I2.hok hfs hDt k1) hfs hDt' k2
  unfold PySem.passOn
  refine wpAny_bind (wpAny_field (s := { s' with heap := h2 }) ((hs2.2 a hae).trans he) hd hv1 ?_)
  rw [if_neg (show ¬ (Value.ref T == Value.none) = true from by simp)]
  refine wpAny_bind (fly_mark (s := { s' with heap := h2 }) (fs := frs X.stack) t2 fun h4 k3 t3 => wpAny_throw ?_)
  have I3 : Inv X pins σ H' { s' with heap := h4 } := I.call' (s' := { s' with heap := h4 }) (ch := fp) I2.os (un_kpX u2 hDu' k3) (hok_kpX hok2 hfs hDt' k3) I2.bare hch
  refine Lv pins σ H' _ a cls _ I3 (t3.mono fun b d => ⟨hDX b d, fun z => ?_⟩) hE
  rcases d with ⟨o', q⟩ | ⟨o', q⟩
  · obtain ⟨o2, q2⟩ := I.base.there b o' q (fun z => by rw [hex] at z; exact absurd z (by simp))
    exact hCs o2 (z ▸ q2)
  · rw [z, hCf] at q; cases q
end
theorem comp_loop_goE {prog : Program} {w : World} {A : Around} {R : Result → Shared → Prop} {s : Shared} {elt target iter : Expr} {ifs : List Expr} {scope : Scope} {pos : Pos} {it acc : Value} {env : Env} (Iv : Nat → Shared → Prop)
    (turn : ∀ n s, Iv n s → wpAny (model prog w) A (pyNext it) (fun r s₁ => match r with
      | none => R (.ok .next) s₁
      | some v => wpAny (model prog w) A (letOwnedTupleGo target it v) (fun _ s₂ => wpAny (model prog w) A (assign target env v) (fun _ s₃ =>
          wpAny (model prog w) A (testsOf ifs env) (fun ok s₄ =>
            if ok = true then wpAny (model prog w) A (eval elt env) (fun x s₅ =>
              wpAny (model prog w) A (call (.builtin "list.append") [acc, x]) (fun _ s₆ => ∃ m, m < n ∧ Iv m s₆) noE s₅) (notedBy (model prog w) A env fun x s' => R (.error x) s') s₄
            else ∃ m, m < n ∧ Iv m s₄) noE s₃) noE s₂) noE s₁) noE s)
    (n : Nat) (h : Iv n s) : codeAny (model prog w) A (.compLoop (.ListComp elt [⟨target, iter, ifs, 0⟩] scope pos) 0 it acc env) R s := by
  refine codeAny_loop rfl Iv (fun n s hI => ?_) n h
  show wpAny _ A ((compTurn (.ListComp elt [⟨target, iter, ifs, 0⟩] scope pos) 0 it acc env).onRaise (fun x => do noteFrame x env; theTreesLotGoes x)) _ _ s
  refine wpAny_noted ?_
  rw [compTurn_list]
  refine wpAny_bind (wpAny_standAt (wpAny_bind (thn (unE (turn n s hI)) fun r s₁ h₁ => ?_)))
  cases r with
  | none => exact wpAny_pure h₁
  | some v =>
    refine wpAny_bind (thn (unE h₁) fun _ s₂ h₂ => ?_)
    refine wpAny_bind (thn (unE h₂) fun _ s₃ h₃ => wpAny_bind (thn (unE h₃) fun ok s₄ h₄ => ?_))
    cases ok with
    | false => exact wpAny_pure ⟨rfl, h₄⟩
    | true =>
      exact wpAny_bind (wpAny_bind (thn h₄ fun x s₅ h₅ => wpAny_bind (thn (unE h₅) fun _ s₆ h₆ => wpAny_pure (wpAny_pure ⟨rfl, h₆⟩))))

section
variable {X : Cx} {pins : List (Addr × Obj)} {σ : St} {H : Hp} {s : Shared} {scope : Scope} {own fr : List Str} {js : List Nat} {E : XK}
theorem comp_runE {elt tg iter : Expr} {ifs : List Expr} {pos : Pos} {g : TG} {tt : TT} {te : TE} {J : It} {fp : List Addr} {it : Addr} {tn : Nat → Heap → Prop} {Qf : List V → Hp → Prop} {RR : Value → Addr → Result → Shared → Prop}
    (hc : X.calm = true) (I : Inv X pins σ H s) (cs : CompSc X.env.scope X.N scope own fr js) (T : Turn X.prog X.w X.K tg J fp it tn) (st : tn 0 s.heap) (f2 : ∀ b ∈ fp, FpOk X pins H b)
    (hg : ∀ C, PG (compCx X scope (own ++ fr) fp pins s H C) tg g) (ht : ∀ C, PTs (compCx X scope (own ++ fr) fp pins s H C) ifs tt) (he : ∀ C, PE (compCxE X E scope (own ++ fr) fp pins s H C) elt te)
    (rd : compRd own.length js g tt te σ J H Qf)
    (hRR : ∀ D C s' H' ys (its : List Value) (n : Nat), s.heap.objs.size ≤ D → s.heap.objs.size ≤ C → D ≠ C → Inv (compCx X scope (own ++ fr) fp pins s H C) [(D, { cls := .type "list", data := .seq its.toArray n })] (cst own.length js σ) H' s' →
      Vals ys its → ys.length ≤ sizeLine → Qf ys H' → RR (.ref D) C (.ok .next) s')
    (hEE : ∀ D C v s', s.heap.objs.size ≤ C → (∃ pins' σ' H1 s1, Inv (compCx X scope (own ++ fr) fp pins s H C) pins' σ' H1 s1 ∧ CXe X.prog X.w X.stack H1 s1 E v s') →
      notedBy (model X.prog X.w) X.A (compEnvC scope (clFrom X.env.cells scope.names []) C X.env) (fun x s'' => RR D C (.error x) s'') v s') :
    wpAny (model X.prog X.w) X.A (newList []) (fun acc s₃ => wpAny (model X.prog X.w) X.A (newFunctionEnv scope X.env.globals (clFrom X.env.cells scope.names []) [] X.env.qual none .none (some X.env)) (fun cenv s₄ =>
      codeAny (model X.prog X.w) X.A (.compStart (.ListComp elt [⟨tg, iter, ifs, 0⟩] scope pos) 0 (.ref it) acc { cenv with scope := relabel scope X.env }) (RR acc cenv.locals) s₄) X.xe s₃) X.xe s := by
  obtain ⟨W, ⟨m0, w0⟩, turn⟩ := rd
  have ho : ∀ b ∈ fp, b < s.heap.objs.size := fun b hb => by
    obtain ⟨o, e, _⟩ := T.obj _ _ st b hb
    exact Heap.lt_size e
  refine wpAny_newObj_type (wpAny_newFunctionEnv (fun y hy => cs.cell y hy) (by intro y hy; simp at hy) (fun h₁ hns₁ hsb₁ => ?_) cs.kind)
  dsimp only at hns₁ hsb₁ ⊢
  generalize hH2 : s.heap.push { cls := .type "list", dict := none, data := .seq ([] : List Value).toArray } = H2 at hns₁ hsb₁ ⊢
  have hC : H2.objs.size = s.heap.objs.size + 1 := by rw [← hH2, Heap.size_push]
  have hDC : s.heap.objs.size ≠ H2.objs.size := by rw [hC]; exact Nat.ne_of_lt (Nat.lt_succ_self _)
  have hCle : s.heap.objs.size ≤ H2.objs.size := by rw [hC]; exact Nat.le_succ _
  have old : ∀ b o, s.heap.get? b = some o → h₁.get? b = some o := fun b o e => hsb₁.extBut b o (by rw [hC]; exact Nat.ne_of_lt (Nat.lt_succ_of_lt (Heap.lt_size e))) (Heap.get?_push_of_some _ (hH2 ▸ Heap.get?_push_of_some _ e))
  have hacc : h₁.get? s.heap.objs.size = some { cls := .type "list", data := .seq ([] : List Value).toArray } := hsb₁.extBut _ _ hDC (Heap.get?_push_of_some _ (hH2 ▸ Heap.get?_push_size _ rfl))
  have stat : ∀ {H' : Hp} {oD : Obj}, (∀ b ∈ fp, H' b = none) → ∀ b ∈ fp, FpOk (compCx X scope (own ++ fr) fp pins s H H2.objs.size) [(s.heap.objs.size, oD)] H' b := fun {H' oD} hn b hb => by
    obtain ⟨f0, f1, f3, f4, f5, f6⟩ := f2 b hb
    refine ⟨hn b hb, Nat.ne_of_lt (Nat.lt_of_lt_of_le (ho b hb) hCle), fun z => ?_, .inl hb, fun x c e => f5 x c (clf_nil e), fun p hp => ?_⟩
    · rcases List.mem_cons.mp (I.stkSub b z) with e | e
      · exact f1 e
      · exact f3 e
    · rcases List.mem_append.mp hp with z | z
      · exact f6 p z
      · have e : p = (s.heap.objs.size, oD) := by simpa using z
        subst e
        exact Nat.ne_of_gt (ho b hb)
  have loop : ∀ s₃ : Shared, s₃ = { s with heap := h₁, toks := s.toks + ([] : List (Str × Value)).length } →
      codeAny (model X.prog X.w) X.A (.compLoop (.ListComp elt [⟨tg, iter, ifs, 0⟩] scope pos) 0 (.ref it) (.ref s.heap.objs.size) (compEnvC scope (clFrom X.env.cells scope.names []) H2.objs.size X.env))
        (RR (.ref s.heap.objs.size) H2.objs.size) s₃ := by
    rintro s₃ rfl
    refine comp_loop_goE (fun n s' => ∃ i ys H' its nn, Inv (compCx X scope (own ++ fr) fp pins s H H2.objs.size) [(s.heap.objs.size, { cls := .type "list", data := .seq (its : List Value).toArray nn })] (cst own.length js σ) H' s' ∧
      Vals ys its ∧ ys.length ≤ sizeLine ∧ tn i s'.heap ∧ (∀ b ∈ fp, H' b = none) ∧ W i n ys H') ?_ m0
      ⟨0, [], H, [], 0, compIn I cs f2 ho hCle old hns₁ (Nat.le_refl _) hDC hacc (fun v z => by cases z), .nil, Nat.zero_le _, T.keep _ _ _ st fun b _ o e => old b o e, fun b hb => (f2 b hb).1, w0⟩
    rintro n s5 ⟨i, ys, H5, its, nn, I5, rv, hz, st5, fr5, w5⟩
    rcases turn i n ys H5 w5 with ⟨stop, q⟩ | ⟨go, hlt, N, hN, step⟩
    · refine thn (T.done (compCx X scope (own ++ fr) fp pins s H H2.objs.size) rfl rfl rfl hc i _ s5 _ H5 noE I5 (stat fr5) st5 stop) fun r s6 ⟨hr, I6⟩ => ?_
      subst hr
      exact hRR _ _ s6 H5 ys its nn (Nat.le_refl _) hCle hDC I6 rv hz q
    · refine thn (T.item (compCx X scope (own ++ fr) fp pins s H H2.objs.size) rfl rfl rfl hc i _ s5 _ H5 noE I5 (stat fr5) st5 go) fun r s6 ⟨u, hr, h6⟩ => ?_
      subst hr
      refine thn h6 fun _ s7 ⟨x, H7, I7, r7, y7, st7, fr7⟩ => ?_
      have I7' := I7.pinned (stat fr7) (T.obj _ _ st7)
      refine thn (hg _ _ s7 _ H7 x u _ I7' r7 (step x H7 y7)) fun _ s8 ⟨σ8, H8, I8, q8⟩ => ?_
      refine thn (ht _ _ s8 σ8 H8 _ I8 q8) fun ok s9 ⟨H9, I9, q9⟩ => ?_
      have kfp : ∀ {σ' : St} {H' : Hp} {s' : Shared}, Inv (compCx X scope (own ++ fr) fp pins s H H2.objs.size) ([(s.heap.objs.size, { cls := .type "list", data := .seq its.toArray nn })] ++ pinsAt fp s7.heap) σ' H' s' →
          (∀ b ∈ fp, ∀ o, s7.heap.get? b = some o → s'.heap.get? b = some o) ∧ ∀ b ∈ fp, H' b = none := fun {σ' H' s'} I' => by
        refine ⟨fun b hb o e => (I'.pin (b, o) (List.mem_append_right _ (List.mem_append_right _ (mem_pinsAt hb e)))).1, fun b hb => ?_⟩
        obtain ⟨o, e, d⟩ := T.obj _ _ st7 b hb
        exact (I'.pin (b, o) (List.mem_append_right _ (List.mem_append_right _ (mem_pinsAt hb e)))).2.1
      cases ok with
      | false =>
        obtain ⟨m', hm, w9⟩ := hN _ _ (show N ys H9 from q9)
        exact ⟨m', hm, i + 1, ys, H9, its, nn, compBack I cs f2 I9.unpinned, rv, hz, T.keep _ _ _ st7 (kfp I9).1, (kfp I9).2, w9⟩
      | true =>
        refine wpAny_mono (he _ _ s9 σ8 H9 _ (I9.wish _) q9) (fun yv s10 ⟨y, H10, I10, r10, q10⟩ => ?_) fun v s10 hv => hEE _ _ v s10 hCle hv
        have I10 := I10.unwish
        have pD := I10.pin (s.heap.objs.size, { cls := .type "list", data := .seq its.toArray nn }) (List.mem_append_right _ (List.mem_append_left _ (List.mem_singleton.mpr rfl)))
        have e1 : s10.heap.get? s.heap.objs.size = some { cls := .type "list", data := .seq its.toArray nn } := pD.1
        have hlen := rv.length
        refine call_meets F.slot_list_append ⟨_, e1, rfl⟩ F.entry_list_append (F.args_list_append_2 _ _) (PySem.list_append s.heap.objs.size its.toArray nn yv (by rw [List.size_toArray]; omega)) ⟨e1, ?_⟩
        obtain ⟨m', hm, w10⟩ := hN _ _ q10
        have e2 := PySem.IsL.update (h := s10.heap) (l := s.heap.objs.size) e1 (fun z => z.push yv)
        have e3 : its.toArray.push yv = (its ++ [yv]).toArray := by simp
        rw [e3] at e2
        obtain ⟨nn', e2'⟩ : ∃ n', (s10.heap.update s.heap.objs.size (Obj.mapSeq fun z => z.push yv)).get? s.heap.objs.size = some { cls := .type "list", data := .seq (its ++ [yv]).toArray n' } := ⟨_, e2⟩
        have I11 := (compBack I cs f2 I10).pins_of (pins' := []) (fun p hp => nomatch hp)
        have I12 := I11.turned (t' := s10.toks) (it := s.heap.objs.size) (h' := s10.heap.update s.heap.objs.size (Obj.mapSeq fun z => z.push yv)) (fun b o hb e => (Heap.get?_update_other s10.heap _ (Ne.symm hb)).trans e)
          pD.2.1 pD.2.2.1 (.inr (Nat.le_refl _)) (fun x c e => by
            obtain ⟨v, z⟩ := I.cell x c (clf_nil e)
            exact Nat.ne_of_lt z.lt) (fun p hp => by
            have hp' : p ∈ X.pn ++ pins := by simpa [compCx] using hp
            exact Nat.ne_of_lt (Heap.lt_size (I.pin p hp').1))
        refine ⟨m', hm, i + 1, ys ++ [y], H10, its ++ [yv], nn', I12.pins_of fun p hp => ?_, rv.append (.cons r10 .nil), ?_, T.keep _ _ _ st7 fun b hb o e => ?_, (kfp I10).2, w10⟩
        · have e := List.mem_singleton.mp hp
          subst e
          exact ⟨e2', pD.2.1, pD.2.2.1, pD.2.2.2.1, fun v z => by cases z⟩
        · rw [List.length_append, List.length_singleton]; omega
        · exact (Heap.get?_update_other s10.heap _ (Nat.ne_of_gt (ho b hb))).trans ((kfp I10).1 b hb o e)
  exact codeAny_compStart_list (loop _ rfl) (T.self _ 0 _ _ _ (T.keep _ _ _ st fun b _ o e => old b o e) (loop _ rfl))
end
section
variable {X : Cx} {scope : Scope} {own fr : List Str} {js : List Nat} {elt tg iter : Expr} {ifs : List Expr} {pos : Pos} {wi : TI} {g : TG} {tt : TT} {te : TE}
theorem pe_compE {E : XK} {sc : Scope} {XN : List Str} (hsc : X.env.scope = sc) (hXN : X.N = XN) (hc : X.calm = true) (hex : X.ex = []) (hst : X.stack = X.env :: X.outer) (hfm : X.env.frame = some X.env.locals) (Lv : Leaves X E) (cs : CompSc sc XN scope own fr js) (hi : PI X tg iter wi) (hg : ∀ fp pins s H C, PG (compCx X scope (own ++ fr) fp pins s H C) tg g)
    (ht : ∀ fp pins s H C, PTs (compCx X scope (own ++ fr) fp pins s H C) ifs tt) (he : ∀ fp pins s H C, PE (compCxE X E scope (own ++ fr) fp pins s H C) elt te)
    (hs : ∀ x, foldedSetIterable iter X.env x = pure x := by intro _; rfl) : PE X (.ListComp elt [⟨tg, iter, ifs, 0⟩] scope pos) (tComp own.length js wi g tt te) := by
  subst hsc hXN
  intro pins s σ H Q I h
  rw [eval_ListComp]
  refine wpAny_comprehension_free (use := none) rfl hs (closureFor_clFrom fun y hy e => I.ok.has y.1 (cs.free y hy e)) cs.kind cs.loc (thn (hi pins s σ H _ I h) fun v s1 h1 => thn h1 fun itv s2 h2 => ?_)
  obtain ⟨it, fp, tn, J, H2, e, I2, T, st2, f2, rd⟩ := h2
  subst e
  refine comp_runE (RR := fun acc C => compPost (model X.prog X.w) X.A X.xe none (EP X pins σ Q) acc C) hc I2 cs T st2 f2 (fun C => hg _ _ _ _ C) (fun C => ht _ _ _ _ C) (fun C => he _ _ _ _ C) rd ?_ (fun D C v s' hC hv => comp_exc hex hst hfm Lv I2 f2 hC hv)
  intro D C s' H' ys its n hD hC hDC I' rv hz q
  obtain ⟨m, hm, _⟩ := I'.loc
  obtain ⟨I3, hn3⟩ := compOut I2 f2 hD I' rv hz
  refine ⟨m, hm, fun h' hs' => ⟨.ref D, _, compGo I2 I3 hC ?_ hs', rfl, q D hn3⟩⟩
  rw [upd_ne (Ne.symm hDC)]
  exact I'.free
end
end L2

namespace Hf
open PySem PySem.Spec PyProof.Rows L2
def top (i : Nat) : Stmt := PySem.Challenge.pw_hirefair_k11_lines_refused.main.body.getD i (.Pass ⟨0, 0, 0, 0⟩)
abbrev s_is_count : Stmt := top 10
theorem sc_is_count : FnScope ["text"] ["text"] (defScope s_is_count) := ⟨rfl, rfl, rfl, by decide +kernel, rfl, by decide +kernel, by decide +kernel⟩
abbrev s_is_number : Stmt := top 11
theorem sc_is_number : FnScope ["text"] ["text"] (defScope s_is_number) := ⟨rfl, rfl, rfl, by decide +kernel, rfl, by decide +kernel, by decide +kernel⟩
abbrev s_read_count : Stmt := top 12
theorem sc_read_count : FnScope ["line"] ["line"] (defScope s_read_count) := ⟨rfl, rfl, rfl, by decide +kernel, rfl, by decide +kernel, by decide +kernel⟩
abbrev s_read_cost : Stmt := top 13
theorem sc_read_cost : FnScope ["piece"] ["piece"] (defScope s_read_cost) := ⟨rfl, rfl, rfl, by decide +kernel, rfl, by decide +kernel, by decide +kernel⟩
abbrev s_pieces_of : Stmt := top 14
theorem sc_pieces_of : FnScope ["line"] ["line"] (defScope s_pieces_of) := ⟨rfl, rfl, rfl, by decide +kernel, rfl, by decide +kernel, by decide +kernel⟩
abbrev s_read_row : Stmt := top 15
theorem sc_read_row : FnScope ["many", "line", "pieces"] ["many", "line"] (defScope s_read_row) := ⟨rfl, rfl, rfl, by decide +kernel, rfl, by decide +kernel, by decide +kernel⟩
abbrev s_are_lines : Stmt := top 16
theorem sc_are_lines : FnScope ["lines"] ["lines"] (defScope s_are_lines) := ⟨rfl, rfl, rfl, by decide +kernel, rfl, by decide +kernel, by decide +kernel⟩
abbrev s_read : Stmt := top 17
theorem sc_read : FnScope ["lines", "many"] ["lines"] (defScope s_read) := ⟨rfl, rfl, rfl, by decide +kernel, rfl, by decide +kernel, by decide +kernel⟩
abbrev s_whole : Stmt := top 19
theorem sc_whole : FnScope ["_law_found"] ["_law_found"] (defScope s_whole) := ⟨rfl, rfl, rfl, by decide +kernel, rfl, by decide +kernel, by decide +kernel⟩
abbrev s_at : Stmt := top 20
theorem sc_at : FnScope ["_law_script", "_law_k"] ["_law_script", "_law_k"] (defScope s_at) := ⟨rfl, rfl, rfl, by decide +kernel, rfl, by decide +kernel, by decide +kernel⟩
abbrev s_same_cost : Stmt := top 21
theorem sc_same_cost : FnScope ["_law_one", "_law_cost"] ["_law_one", "_law_cost"] (defScope s_same_cost) := ⟨rfl, rfl, rfl, by decide +kernel, rfl, by decide +kernel, by decide +kernel⟩
abbrev s_same_row : Stmt := top 22
theorem sc_same_row : FnScope ["_law_one", "_law_row", "_law_j"] ["_law_one", "_law_row"] (defScope s_same_row) := ⟨rfl, rfl, rfl, by decide +kernel, rfl, by decide +kernel, by decide +kernel⟩
abbrev s_same_table : Stmt := top 23
theorem sc_same_table : FnScope ["_law_found", "_law_rows", "_law_k"] ["_law_found", "_law_rows"] (defScope s_same_table) := ⟨rfl, rfl, rfl, by decide +kernel, rfl, by decide +kernel, by decide +kernel⟩
abbrev s_piece_by : Stmt := top 24
theorem sc_piece_by : FnScope ["_law_cell", "_law_good", "_law_bad"] ["_law_cell"] (defScope s_piece_by) := ⟨rfl, rfl, rfl, by decide +kernel, rfl, by decide +kernel, by decide +kernel⟩
abbrev s_meant : Stmt := top 25
theorem sc_meant : FnScope ["_law_piece"] ["_law_piece"] (defScope s_meant) := ⟨rfl, rfl, rfl, by decide +kernel, rfl, by decide +kernel, by decide +kernel⟩
abbrev s_line_of : Stmt := top 26
theorem sc_line_of : FnScope ["_law_cells", "_law_count", "_law_head", "_law_texts", "_law_row", "_law_clean", "_law_cell", "_law_part", "_law_good"] ["_law_cells", "_law_count", "_law_head"] (defScope s_line_of) := ⟨rfl, rfl, rfl, by decide +kernel, rfl, by decide +kernel, by decide +kernel⟩
abbrev s_any_refusal : Stmt := top 27
theorem sc_any_refusal : FnScope ["_law_handed", "e"] ["_law_handed"] (defScope s_any_refusal) := ⟨rfl, rfl, rfl, by decide +kernel, rfl, by decide +kernel, by decide +kernel⟩
abbrev s_like : Stmt := top 28
theorem sc_like : FnScope ["_law_found", "_law_due", "_law_got_parts", "_law_due_parts", "_law_one", "_law_two"] ["_law_found", "_law_due"] (defScope s_like) := ⟨rfl, rfl, rfl, by decide +kernel, rfl, by decide +kernel, by decide +kernel⟩
abbrev s_law : Stmt := top 29
theorem sc_law : FnScope ["_law_script", "_law_heads", "_law_head", "_law_fine", "_law_lines", "_law_rows", "_law_turn", "_law_count", "_law_cells", "_law_line", "_law_row", "_law_clean", "_law_handed", "_law_found", "_law_refused", "e"] ["_law_script"] (defScope s_law) := ⟨rfl, rfl, rfl, by decide +kernel, rfl, by decide +kernel, by decide +kernel⟩
/-- the built-in names are not the program's -/
structure Blt (mg : Str → Option Value) : Prop where
  len : mg "len" = none
  range : mg "range" = none
  isinstance : mg "isinstance" = none
  int : mg "int" = none
  bool : mg "bool" = none
  list : mg "list" = none
  all : mg "all" = none
  min : mg "min" = none
  set : mg "set" = none
  zip : mg "zip" = none
  enumerate : mg "enumerate" = none
  sum : mg "sum" = none
  vErr : mg "ValueError" = none
  tuple : mg "tuple" = none
  str : mg "str" = none
  sorted : mg "sorted" = none

section
variable {P : Program} {w : World} {K : PySem.W.Frag} {mg : Str → Option Value} {base : Heap}

/-! ### the law's small defs -/
def sp_whole : Sp := fun vs H Q _ => ∃ (c : Option Int), vs = [cellV c] ∧ Q (.bl c.isSome) H
theorem ok_whole (B : Blt mg) (D : DefIs K mg "_law_whole" s_whole ["_law_found"]) : Has P w K mg base 1 "_law_whole" ["_law_found"] sp_whole := by
  refine D.has sc_whole (fun vs H Q E h => ?_) fun f cdv A outer s H vs Q E hr h => ?_
  · obtain ⟨c, rfl, _⟩ := h; rfl
  · obtain ⟨c, rfl, k⟩ := h
    refine ⟨_, pss_one (ps_ret (pe_and (pe_callB call_isi (by rfl) B.isinstance boot_isinstance (pa_cons (pv 0) (pa_cons (pe_ty (by rfl) B.int boot_int) pa_nil))) (pe_one (pe_not (pe_callB call_isi (by rfl) B.isinstance boot_isinstance (pa_cons (pv 0) (pa_cons (pe_ty (by rfl) B.bool boot_bool) pa_nil))))))), ?_⟩
    cases c with
    | none => exact ⟨_, rfl, _, _, _, false, rfl, .non, by rfl, _, rfl, iteF k⟩
    | some i => exact ⟨_, rfl, _, _, _, true, rfl, .int i, by rfl, _, rfl, iteT ⟨_, rfl, _, _, _, false, rfl, .int i, by rfl, _, rfl, k⟩⟩

def sp_same_cost : Sp := fun vs H Q _ => ∃ (c d : Option Int), vs = [cellV c, cellV d] ∧ Q (.bl (decide (c = d))) H
theorem ok_same_cost (B : Blt mg) (Gw : Has P w K mg base 1 "_law_whole" ["_law_found"] sp_whole) (D : DefIs K mg "_law_same_cost" s_same_cost ["_law_one", "_law_cost"]) :
    Has P w K mg base 2 "_law_same_cost" ["_law_one", "_law_cost"] sp_same_cost := by
  refine D.has sc_same_cost (fun vs H Q E h => ?_) fun f cdv A outer s H vs Q E hr h => ?_
  · obtain ⟨c, d, rfl, _⟩ := h; rfl
  · obtain ⟨c, d, rfl, k⟩ := h
    refine ⟨_, pss_cons (ps_if (pt_cmpR op_isN (pv 1) pe_non (nomark _)) (pss_one (ps_ret (pe_cmpR op_isN (pv 0) pe_non (nomark _)))) pss_nil)
      (pss_one (ps_ret (pe_and (pe_fn Gw hr (by rfl) (pa_cons (pv 0) pa_nil)) (pe_one (pe_cmpR op_eq (pv 0) (pv 1) (nomark _)))))), ?_⟩
    refine ⟨_, rfl, rfl, _, rfl, ?_⟩
    cases d with
    | none =>
      refine iteT ⟨_, rfl, rfl, ?_⟩
      cases c with
      | none => exact k
      | some i => exact k
    | some j =>
      refine iteF ⟨_, rfl, c, rfl, _, rfl, ?_⟩
      cases c with
      | none => exact iteF k
      | some i =>
        refine iteT ⟨_, rfl, _, rfl, rfl, ?_⟩
        have e : decide (cellV (some i) = cellV (some j)) = decide ((some i : Option Int) = some j) := by
          by_cases h : i = j
          · subst h; simp
          · have e1 : ¬ cellV (some i) = cellV (some j) := fun z => h (V.int.inj z)
            have e2 : ¬ (some i : Option Int) = some j := fun z => h (Option.some.inj z)
            rw [decide_eq_false e1, decide_eq_false e2]
        rw [e]; exact k

/-- rows of the same costs -/
def sp_same_row (K : PySem.W.Frag) : Sp := fun vs H Q _ => ∃ (a b : Addr) (r q : HRow), vs = [.ref a, .ref b] ∧ H a = some (.lst (r.map cellV)) ∧ RowAt K H b q ∧ r.length ≤ 1000 ∧ ∀ t : Bool, (t = true ↔ r = q) → Q (.bl t) H
theorem ok_same_row (B : Blt mg) (Gc : Has P w K mg base 2 "_law_same_cost" ["_law_one", "_law_cost"] sp_same_cost) (D : DefIs K mg "_law_same_row" s_same_row ["_law_one", "_law_row"]) :
    Has P w K mg base 3 "_law_same_row" ["_law_one", "_law_row"] (sp_same_row K) := by
  refine D.has sc_same_row (fun vs H Q E h => ?_) fun f cdv A outer s H vs Q E hr h => ?_
  · obtain ⟨a, b, r, q, rfl, _⟩ := h; rfl
  · obtain ⟨a, b, r, q, rfl, ha, hb, hz, k⟩ := h
    refine ⟨_, pss_cons (ps_if ((pw_or (pt_not (pt_val (pe_callB call_isi (by rfl) B.isinstance boot_isinstance (pa_cons (pv 0) (pa_cons (pe_ty (by rfl) B.list boot_list) pa_nil)))))
        (pw_or1 (pt_cmpR op_ne (pe_callB call_len_seq (by rfl) B.len boot_len (pa_cons (pv 0) pa_nil)) (pe_callB call_len_seq (by rfl) B.len boot_len (pa_cons (pv 1) pa_nil)) (nomark _))))).pt (pss_one (ps_ret pe_bl)) pss_nil)
      (pss_cons (ps_for PassesOwn.never rfl (pi_range1 (by rfl) B.range (pa_cons (pe_callB call_len_seq (by rfl) B.len boot_len (pa_cons (pv 1) pa_nil)) pa_nil)) (pg_name (i := 2) sc_same_row.nd rfl (Or.inl rfl))
        (pss_one (ps_if (pt_not (pt_val (pe_fn Gc hr (by rfl) (pa_cons (pe_ix ix_list (pv 0) (pv 2) (fun _ _ => rfl)) (pa_cons (pe_ix ix_list (pv 1) (pv 2) (fun _ _ => rfl)) pa_nil))))) (pss_one (ps_ret pe_bl)) pss_nil)))
      (pss_one (ps_ret pe_bl))), ?_⟩
    refine ⟨_, rfl, _, _, _, true, rfl, .lst ha, by rfl, _, rfl, iteF ?_⟩
    refine ⟨_, rfl, a, _, rfl, .inl (SqL.of ha), _, rfl, b, _, rfl, .inl hb, rfl, _, rfl, ?_⟩
    refine ite2 (fun h => ?_) (fun h => ?_)
    · refine k false (iffF fun z => ?_)
      subst z
      simp at h
    · have hl : r.length = q.length := by
        simp at h
        omega
      refine ⟨_, rfl, b, _, rfl, .inl hb, _, rfl, by omega, by rw [List.length_map]; omega, ?_⟩
      refine for_range (fun i σ H2 => ∃ v, σ = [some (.ref a), some (.ref b), v] ∧ H2 = H ∧ ∀ (j : Nat), j < i → r[j]? = q[j]?) ⟨none, rfl, rfl, fun j hj => absurd hj (Nat.not_lt_zero j)⟩ ?_ ?_
      · rintro i σ H2 hi ⟨v, rfl, rfl, hm⟩
        have hi' : i < q.length := by simpa using hi
        have e1 : (r.map cellV)[i]? = some (cellV r[i]) := by rw [List.getElem?_map, List.getElem?_eq_getElem (by omega)]; rfl
        have e2 : (q.map cellV)[i]? = some (cellV q[i]) := by rw [List.getElem?_map, List.getElem?_eq_getElem hi']; rfl
        refine ⟨_, rfl, _, rfl, a, _, _, _, rfl, rfl, SqL.of ha, by rw [Int.zero_add]; exact atI_nat e1, _, rfl, _, rfl, b, _, _, _, rfl, rfl, hb, by rw [Int.zero_add]; exact atI_nat e2, _, _, rfl, _, rfl, ?_⟩
        refine ite2 (fun h => ?_) (fun h => ?_)
        · refine k false (iffF fun z => ?_)
          subst z
          simp at h
        · have e3 : r[i] = q[i] := by simpa using h
          refine ⟨_, rfl, rfl, fun j hj => ?_⟩
          by_cases hji : j = i
          · subst hji
            rw [List.getElem?_eq_getElem (by omega), List.getElem?_eq_getElem hi', e3]
          · exact hm j (by omega)
      · rintro σ H2 ⟨v, rfl, rfl, hm⟩
        refine k true ⟨fun _ => ?_, fun _ => rfl⟩
        refine List.ext_getElem? fun j => ?_
        by_cases hj : j < q.length
        · exact hm j (by simpa using hj)
        · rw [List.getElem?_eq_none_iff.mpr (by omega), List.getElem?_eq_none_iff.mpr (by omega)]
end


/-! ### what the points say -/
section
variable {P : Program} {w : World} {K : PySem.W.Frag} {mg : Str → Option Value} {base : Heap}

end

end Hf

namespace Hf
open PySem PySem.Spec PyProof.Rows L2
/-! ### tables that the law owns -/
/-- the table's list at l, its rows at as: nobody else's -/
structure Own (H : Hp) (l : Addr) (as : List Addr) (T : HTab) : Prop where
  lst : H l = some (.lst (as.map V.ref))
  len : as.length = T.length
  nd : (l :: as).Nodup
  row : ∀ (i : Nat) b r, as[i]? = some b → T[i]? = some r → H b = some (.lst (r.map cellV))
theorem Own.tab {K : PySem.W.Frag} {H : Hp} {l : Addr} {as : List Addr} {T : HTab} (o : Own H l as T) : TabAt K H l T := ⟨as, SqL.of o.lst, o.len, fun i b r e1 e2 => SqL.of (o.row i b r e1 e2)⟩
theorem Own.same {H H' : Hp} {l : Addr} {as : List Addr} {T : HTab} (o : Own H l as T) (e : Same H H') : Own H' l as T := ⟨e _ _ o.lst, o.len, o.nd, fun i b r e1 e2 => e _ _ (o.row i b r e1 e2)⟩
theorem Own.mem {H : Hp} {l : Addr} {as : List Addr} {T : HTab} (o : Own H l as T) {b : Addr} (hb : b ∈ as) : ∃ r : HRow, H b = some (.lst (r.map cellV)) := by
  obtain ⟨i, hi, e⟩ := List.mem_iff_getElem.mp hb
  have hT : i < T.length := by have := o.len; omega
  exact ⟨T[i], o.row i b T[i] (by rw [← e]; exact List.getElem?_eq_getElem hi) (List.getElem?_eq_getElem hT)⟩
/-- a store elsewhere -/
theorem Own.away {H : Hp} {l x : Addr} {as : List Addr} {T : HTab} {ob : HO} (o : Own H l as T) (h : x ∉ l :: as) : Own (upd H x ob) l as T := by
  have hl : l ≠ x := fun e => h (e ▸ List.mem_cons_self)
  refine ⟨by rw [upd_ne hl]; exact o.lst, o.len, o.nd, fun i b r e1 e2 => ?_⟩
  have hb : b ≠ x := fun e => h (e ▸ List.mem_cons_of_mem _ (List.mem_of_getElem? e1))
  rw [upd_ne hb]; exact o.row i b r e1 e2
theorem comp_list_by {K : PySem.W.Frag} {a : Addr} {xs : List V} {own : Nat} {js : List Nat} {g : TG} {tt : TT} {te : TE} {σ : L2.St} {H : Hp} {Qf : List V → Hp → Prop} (Pv : Nat → List V → Hp → Prop) (h0 : Pv 0 [] H) (hz : xs.length ≤ 1000)
    (hlen : ∀ i ys H2, Pv i ys H2 → ys.length ≤ i) (hl : ∀ i ys H2, Pv i ys H2 → SqL K H2 a xs) (hd : ∀ ys H2, Pv xs.length ys H2 → Qf ys H2)
    (hs : ∀ (i : Nat) ys H2 x, xs[i]? = some x → Pv i ys H2 → g x (cst own js σ) H2 fun σ3 H4 => tt σ3 H4 fun b H5 => if b = true then te σ3 H5 fun y H6 => Pv (i + 1) (ys ++ [y]) H6 else Pv (i + 1) ys H5) :
    compRd own js g tt te σ (Itl K a) H Qf := by
  refine comp_by (n := xs.length) Pv h0 hz hlen (fun i ys H2 hi p => ⟨xs, xs[i], hl i ys H2 p, by simp [hi]⟩) (fun ys H2 p => ⟨⟨xs, hl _ _ _ p, Nat.le_refl _⟩, hd ys H2 p⟩) ?_
  intro i ys H2 x H3 hi p y
  obtain ⟨e, y⟩ := y
  subst e
  exact hs i ys _ x (y xs (hl i ys _ p)) p

section
variable {P : Program} {w : World} {K : PySem.W.Frag} {mg : Str → Option Value} {base : Heap}

/-- tables of the same rows -/
def sp_same_table (K : PySem.W.Frag) : Sp := fun vs H Q _ => ∃ (a b : Addr) (as : List Addr) (T U : HTab), vs = [.ref a, .ref b] ∧ H a = some (.lst (as.map V.ref)) ∧ as.length = T.length ∧ (∀ (i : Nat) c r, as[i]? = some c → T[i]? = some r → H c = some (.lst (r.map cellV)) ∧ r.length ≤ 1000) ∧
  TabAt K H b U ∧ T.length ≤ 1000 ∧ ∀ t : Bool, (t = true ↔ T = U) → Q (.bl t) H
theorem ok_same_table (B : Blt mg) (Gr : Has P w K mg base 3 "_law_same_row" ["_law_one", "_law_row"] (sp_same_row K)) (D : DefIs K mg "_law_same_table" s_same_table ["_law_found", "_law_rows"]) :
    Has P w K mg base 4 "_law_same_table" ["_law_found", "_law_rows"] (sp_same_table K) := by
  refine D.has sc_same_table (fun vs H Q E h => ?_) fun f cdv A outer s H vs Q E hr h => ?_
  · obtain ⟨a, b, as, T, U, rfl, _⟩ := h; rfl
  · obtain ⟨a, b, as, T, U, rfl, ha, hl, hrow, ⟨bs, hb, hl2, hrow2⟩, hz, k⟩ := h
    refine ⟨_, pss_cons (ps_if ((pw_or (pt_not (pt_val (pe_callB call_isi (by rfl) B.isinstance boot_isinstance (pa_cons (pv 0) (pa_cons (pe_ty (by rfl) B.list boot_list) pa_nil)))))
        (pw_or1 (pt_cmpR op_ne (pe_callB call_len_seq (by rfl) B.len boot_len (pa_cons (pv 0) pa_nil)) (pe_callB call_len_seq (by rfl) B.len boot_len (pa_cons (pv 1) pa_nil)) (nomark _))))).pt (pss_one (ps_ret pe_bl)) pss_nil)
      (pss_cons (ps_for PassesOwn.never rfl (pi_range1 (by rfl) B.range (pa_cons (pe_callB call_len_seq (by rfl) B.len boot_len (pa_cons (pv 1) pa_nil)) pa_nil)) (pg_name (i := 2) sc_same_table.nd rfl (Or.inl rfl))
        (pss_one (ps_if (pt_not (pt_val (pe_fn Gr hr (by rfl) (pa_cons (pe_ix ix_list (pv 0) (pv 2) (fun _ _ => rfl)) (pa_cons (pe_ix ix_list (pv 1) (pv 2) (fun _ _ => rfl)) pa_nil))))) (pss_one (ps_ret pe_bl)) pss_nil)))
      (pss_one (ps_ret pe_bl))), ?_⟩
    refine ⟨_, rfl, _, _, _, true, rfl, .lst ha, by rfl, _, rfl, iteF ?_⟩
    refine ⟨_, rfl, a, _, rfl, .inl (SqL.of ha), _, rfl, b, _, rfl, .inl hb, rfl, _, rfl, ?_⟩
    refine ite2 (fun h => ?_) (fun h => ?_)
    · refine k false (iffF fun z => ?_)
      subst z
      have := neI h
      rw [List.length_map, List.length_map] at this
      omega
    · have hlen : T.length = U.length := by
        have := eqI h
        rw [List.length_map, List.length_map] at this
        omega
      refine ⟨_, rfl, b, _, rfl, .inl hb, _, rfl, by omega, by rw [List.length_map]; omega, ?_⟩
      refine for_range (fun i σ H2 => ∃ v, σ = [some (.ref a), some (.ref b), v] ∧ H2 = H ∧ ∀ (j : Nat), j < i → T[j]? = U[j]?) ⟨none, rfl, rfl, fun j hj => absurd hj (Nat.not_lt_zero j)⟩ ?_ ?_
      · rintro i σ H2 hi ⟨v, rfl, rfl, hm⟩
        have hi' : i < U.length := by simpa [hl2] using hi
        have e1 : (as.map V.ref)[i]? = some (.ref (as[i]'(by omega))) := by rw [List.getElem?_map, List.getElem?_eq_getElem (by omega)]; rfl
        have e2 : (bs.map V.ref)[i]? = some (.ref (bs[i]'(by omega))) := by rw [List.getElem?_map, List.getElem?_eq_getElem (by omega)]; rfl
        have r1 := hrow i (as[i]'(by omega)) (T[i]'(by omega)) (List.getElem?_eq_getElem _) (List.getElem?_eq_getElem _)
        have r2 := hrow2 i (bs[i]'(by omega)) (U[i]'(by omega)) (List.getElem?_eq_getElem _) (List.getElem?_eq_getElem _)
        refine ⟨_, rfl, _, rfl, a, _, _, _, rfl, rfl, SqL.of ha, by rw [Int.zero_add]; exact atI_nat e1, _, rfl, _, rfl, b, _, _, _, rfl, rfl, hb, by rw [Int.zero_add]; exact atI_nat e2, _, _, _, _, rfl, r1.1, r2, r1.2, fun t ht => ⟨t, rfl, ?_⟩⟩
        refine ite2 (fun h => ?_) (fun h => ?_)
        · refine k false (iffF fun z => ?_)
          subst z
          have := ht.mpr rfl
          rw [this] at h
          cases h
        · have e3 : T[i]'(by omega) = U[i]'(by omega) := ht.mp (by cases t with | true => rfl | false => exact absurd rfl h)
          refine ⟨_, rfl, rfl, fun j hj => ?_⟩
          by_cases hji : j = i
          · subst hji
            rw [List.getElem?_eq_getElem (by omega), List.getElem?_eq_getElem hi', e3]
          · exact hm j (by omega)
      · rintro σ H2 ⟨v, rfl, rfl, hm⟩
        refine k true (iffT ?_)
        refine List.ext_getElem? fun j => ?_
        by_cases hj : j < U.length
        · exact hm j (by simpa [hl2] using hj)
        · rw [List.getElem?_eq_none_iff.mpr (by omega), List.getElem?_eq_none_iff.mpr (by omega)]
end

theorem _root_.L2.Same.put {H H' : Hp} {p : Addr} {o : HO} (e : Same H H') (h : H p = none) : Same H (upd H' p o) := fun b u q => by
  rw [upd_ne (ne_of_none q h)]; exact e b u q

theorem Own.push {H : Hp} {l b : Addr} {as : List Addr} {T : HTab} {r : HRow} (o : Own H l as T) (hb : H b = some (.lst (r.map cellV))) (hn : b ∉ l :: as) : Own (upd H l (.lst ((as ++ [b]).map V.ref))) l (as ++ [b]) (T ++ [r]) := by
  have hl : b ≠ l := fun e => hn (e ▸ List.mem_cons_self)
  refine ⟨upd_same, by rw [List.length_append, List.length_append, o.len]; rfl, ?_, fun i c q e1 e2 => ?_⟩
  · rw [← List.cons_append]
    refine List.nodup_append.mpr ⟨o.nd, by simp, fun x h1 y h2 => ?_⟩
    have : y = b := by simpa using h2
    rw [this]
    intro e
    exact hn (e ▸ h1)
  · have hcl : c ≠ l := fun e => by
      rcases List.mem_append.mp (List.mem_of_getElem? e1) with z | z
      · exact (List.nodup_cons.mp o.nd).1 (e ▸ z)
      · have : c = b := by simpa using z
        exact hl (this ▸ e)
    rw [upd_ne hcl]
    by_cases hi : i < as.length
    · rw [List.getElem?_append_left hi] at e1
      rw [List.getElem?_append_left (by have := o.len; omega)] at e2
      exact o.row i c q e1 e2
    · have hlt := (List.getElem?_eq_some_iff.mp e1).1
      rw [List.length_append, List.length_singleton] at hlt
      have hii : i = as.length := by omega
      subst hii
      rw [List.getElem?_append_right (Nat.le_refl _), Nat.sub_self] at e1
      rw [o.len, List.getElem?_append_right (Nat.le_refl _), Nat.sub_self] at e2
      cases e1; cases e2
      exact hb


theorem cut_to (ns : List Int) (k : Nat) : cutV (ns.map V.int) none (some (k : Int)) = (ns.take k).map V.int := by
  unfold cutV
  rw [HT.sIx_nat, HT.sIx_none, List.length_map, List.drop_zero, ← List.map_take, Nat.sub_zero]
  congr 1
  by_cases h : k ≤ ns.length
  · rw [Nat.min_eq_left h]
  · rw [Nat.min_eq_right (by omega), List.take_of_length_le (Nat.le_refl _), List.take_of_length_le (by omega)]

theorem boot_str10 : bootBuiltins "str" = some (.type "str") := by decide +kernel
theorem boot_tuple10 : bootBuiltins "tuple" = some (.type "tuple") := by decide +kernel
theorem rg_map {α : Type} (T : List α) (d : α) (g : α → V) : (List.range T.length).filterMap (fun i => some (g (T.getD i d))) = T.map g := by
  rw [show (fun i => some (g (T.getD i d))) = some ∘ (fun i => g (T.getD i d)) from rfl, List.filterMap_eq_map]
  refine List.ext_getElem (by simp) fun i h1 h2 => ?_
  have h3 : i < T.length := by simpa using h2
  simp [List.getD, List.getElem?_eq_getElem h3]
theorem getD_get {α : Type} {T : List α} {d x : α} {i : Nat} (h : T[i]? = some x) : T.getD i d = x := by simp [List.getD, h]
theorem call_isiK {X : Cx} {K : PySem.W.Frag} (hK : X.K = K) : CallR X (.builtin "isinstance") (fun xs H Q => ∃ (x : V) (n : String) (t : Value) (b : Bool), xs = [x, .ty n] ∧ TyOf K H x t ∧ PySem.W.kitOne K t (.type n) = some b ∧ Q (.bl b) H) := hK ▸ call_isi
theorem fig_dig (c : Nat) : decide (c ∈ sg ("0123456789" : Str)) = isDig c := by
  have e : sg ("0123456789" : Str) = [48, 49, 50, 51, 52, 53, 54, 55, 56, 57] := by decide +kernel
  rw [e, Bool.eq_iff_iff, decide_eq_true_iff]
  unfold isDig
  rw [decide_eq_true_iff]
  simp
  omega
theorem starts_one (x : Str) (c : Nat) : Txt.startswith x ⟨#[c]⟩ = decide ((sg x).head? = some c) := by
  unfold Txt.startswith
  have h := StrLaws.subAt_one x c 0
  rw [Bool.eq_iff_iff, Bool.and_eq_true, decide_eq_true_iff, decide_eq_true_iff, List.head?_eq_getElem?]
  exact h
theorem slice_one {x : Str} {c : Nat} {r : List Nat} (h : sg x = c :: r) : sg (Txt.slice x (some 1) none) = r := by
  have h1 : x.cps.toList.length = r.length + 1 := by
    show (sg x).length = _
    rw [h]; rfl
  have e := StrLaws.sliceText_from (x := x) (i := 1) ⟨by decide, by omega⟩
  have e2 : Txt.slice x (some 1) none = ⟨((x.cps.toList.drop (1 : Int).toNat).take ((x.cps.toList.length : Int) - 1).toNat).toArray⟩ := e
  show (Txt.slice x (some 1) none).cps.toList = r
  rw [e2]
  show (((sg x).drop 1).take _) = r
  rw [h]
  show r.take _ = r
  exact List.take_of_length_le (by omega)
theorem str_eq {x y : Str} : decide (V.str x = V.str y) = decide (sg x = sg y) := by
  rw [Bool.eq_iff_iff, decide_eq_true_iff, decide_eq_true_iff]
  exact ⟨fun h => by rw [V.str.inj h], fun h => by rw [sg_inj h]⟩
abbrev Asc (x : Str) : Prop := ∀ c ∈ sg x, c < 128
theorem asc_all {x : Str} (h : Asc x) : x.cps.all (· < 128) = true := by
  rw [← Array.all_toList, List.all_eq_true]
  exact fun c hc => decide_eq_true (h c hc)
section
variable {P : Program} {w : World} {K : PySem.W.Frag} {mg : Str → Option Value} {base : Heap} {tF : Tok}
def sp_is_count : Sp := fun vs H Q _ => ∃ (x : Str), vs = [.str x] ∧ Asc x ∧ x.length ≤ 640 ∧ ∀ H', Same H H' → Q (.bl (isCountL (sg x))) H'
theorem ok_is_count (B : Blt mg) (hF : mg "FIGURES" = some (.str "0123456789" tF)) (D : DefIs K mg "is_count" s_is_count ["text"]) : Has P w K mg base 1 "is_count" ["text"] sp_is_count := by
  refine D.has sc_is_count (fun vs H Q E h => ?_) fun f cdv A outer s H vs Q E hr h => ?_
  · obtain ⟨x, rfl, _⟩ := h; rfl
  · obtain ⟨x, rfl, hA, hz, k⟩ := h
    refine ⟨_, pss_cons (ps_if ((pw_or (pt_cmpR op_eq (pv 0) pe_str (nomark _)) (pw_or1 (pt_not (pt_val (pe_callB (call_all_bl rfl) (by rfl) B.all boot_all (pa_cons (pe_comp (sc := defScope s_is_count) (XN := ["text"]) (own := ["sign"]) (fr := []) (js := []) rfl rfl rfl (⟨rfl, by decide +kernel, by decide +kernel, by decide +kernel, rfl, by decide +kernel⟩) (pi_str (pv 0)) (fun _ _ _ _ _ => (pg_name (i := 0) (show List.Nodup (["sign"] : List Str) by decide +kernel) rfl (Or.inl rfl))) (fun _ _ _ _ _ => pts_nil) (fun _ _ _ _ _ => (pe_cmpR op_in_str (pv 0) (pe_glob (v := .str "0123456789") (u := .str "0123456789" tF) (by rfl) (by exact hF) ⟨_, rfl⟩) (by with_unfolding_all rfl)))) pa_nil))))))).pt (pss_one (ps_ret pe_bl)) pss_nil)
      (pss_one (ps_ret (pe_or (pe_cmpR op_eq (pv 0) pe_str (nomark _)) (pe_one (pe_not (pe_bm PySem.F.plainAttrs_str PySem.F.slot_str_startswith PySem.F.type_str_startswith mt_starts (pv 0) (pa_cons pe_str pa_nil))))))), ?_⟩
    have sm0 := Same.refl H
    refine ⟨_, rfl, rfl, _, rfl, ?_⟩
    rw [str_eq]
    refine ite2 (fun h => ?_) (fun h => ?_)
    · have h1 : sg x = [] := of_decide_eq_true h
      have h2 : isCountL (sg x) = false := by rw [h1]; rfl
      have := k H sm0
      rw [h2] at this
      exact this
    · have h1 : sg x ≠ [] := fun z => h (decide_eq_true z)
      refine ⟨_, rfl, x, rfl, asc_all hA, ?_⟩
      refine comp_pure (n := (sg x).length) (fun i => some (V.bl (isDig ((sg x).getD i 0)))) (by rw [sg_len]; omega) (fun i H2 hi sm => (by show i < x.cps.size; rw [← Array.length_toList]; exact hi)) (fun H2 sm => (by show x.cps.size ≤ _; rw [← Array.length_toList]; exact Nat.le_refl _)) ?_ ?_
      · intro H2 s2 D' hD'
        rw [rg_map (sg x) 0 (fun c => V.bl (isDig c))]
        have em : (sg x).map (fun c => V.bl (isDig c)) = ((sg x).map isDig).map V.bl := by rw [List.map_map]; rfl
        rw [em]
        have s3 := s2.upd hD' (o := HO.lst (((sg x).map isDig).map V.bl))
        have a3 : (upd H2 D' (.lst (((sg x).map isDig).map V.bl))) D' = some (.lst (((sg x).map isDig).map V.bl)) := upd_same
        generalize upd H2 D' (.lst (((sg x).map isDig).map V.bl)) = H3 at s3 a3
        have ea : ((sg x).map isDig).all id = (sg x).all isDig := by rw [List.all_map]; rfl
        refine ⟨D', _, rfl, SqL.of a3, _, rfl, ?_⟩
        rw [ea]
        have hk := k H3 s3
        have he : (sg x).isEmpty = false := by
          cases hx : sg x with
          | nil => exact absurd hx h1
          | cons _ _ => rfl
        unfold isCountL at hk
        rw [he] at hk
        cases hd : (sg x).all isDig with
        | false =>
          rw [hd] at hk
          exact iteT hk
        | true =>
          rw [hd] at hk
          refine iteF ?_
          refine ⟨_, rfl, rfl, _, rfl, ?_⟩
          rw [str_eq]
          have e0 : sg ("0" : Str) = [48] := by decide +kernel
          refine ite2 (fun h => ?_) (fun h => ?_)
          · have h2 : sg x = [48] := e0 ▸ of_decide_eq_true h
            rw [decide_eq_true h2] at hk
            exact hk
          · have h2 : ¬ sg x = [48] := fun z => h (decide_eq_true (z.trans e0.symm))
            rw [decide_eq_false h2] at hk
            refine ⟨_, rfl, rfl, x, ⟨#[48]⟩, rfl, rfl, _, rfl, ?_⟩
            rw [starts_one]
            exact hk
      · intro i ys H2 y H3 N hi sm yl hN
        obtain ⟨rfl, c, hc, rfl⟩ := yl
        have hc' : (sg x)[i]? = some c := by rw [Array.getElem?_toList]; exact hc
        rw [getD_get hc', ← fig_dig c, ← StrLaws.found_one] at hN
        exact ⟨_, rfl, _, _, rfl, rfl, hN _ sm⟩
def sp_is_number : Sp := fun vs H Q _ => ∃ (x : Str), vs = [.str x] ∧ Asc x ∧ x.length ≤ 640 ∧ ∀ H', Same H H' → Q (.bl (isNumL (sg x))) H'
theorem ok_is_number (Gc : Has P w K mg base 1 "is_count" ["text"] sp_is_count) (D : DefIs K mg "is_number" s_is_number ["text"]) : Has P w K mg base 2 "is_number" ["text"] sp_is_number := by
  refine D.has sc_is_number (fun vs H Q E h => ?_) fun f cdv A outer s H vs Q E hr h => ?_
  · obtain ⟨x, rfl, _⟩ := h; rfl
  · obtain ⟨x, rfl, hA, hz, k⟩ := h
    refine ⟨_, pss_cons (ps_if (pt_val (pe_bm PySem.F.plainAttrs_str PySem.F.slot_str_startswith PySem.F.type_str_startswith mt_starts (pv 0) (pa_cons pe_str pa_nil))) (pss_one (ps_ret (pe_and (pe_cmpR op_ne (pv 0) pe_str (nomark _)) (pe_one (pe_fn Gc hr (by rfl) (pa_cons (pe_slice sl_str (pv 0) (po_some pe_int) po_none) pa_nil)))))) pss_nil)
      (pss_one (ps_ret (pe_fn Gc hr (by rfl) (pa_cons (pv 0) pa_nil)))), ?_⟩
    refine ⟨_, rfl, rfl, x, ⟨#[45]⟩, rfl, rfl, _, rfl, ?_⟩
    rw [starts_one]
    refine ite2 (fun h => ?_) (fun h => ?_)
    · have h1 : (sg x).head? = some 45 := of_decide_eq_true h
      obtain ⟨r, hx⟩ : ∃ r, sg x = 45 :: r := by
        cases hx : sg x with
        | nil => rw [hx] at h1; cases h1
        | cons c r => rw [hx] at h1; cases h1; exact ⟨r, rfl⟩
      have hk := fun H' sm => k H' sm
      rw [hx] at hk
      refine ⟨_, rfl, rfl, _, rfl, ?_⟩
      have e0 : sg ("-0" : Str) = [45, 48] := by decide +kernel
      have e1 : decide (V.str x = V.str "-0") = decide (r = [48]) := by
        rw [str_eq, hx, e0, Bool.eq_iff_iff, decide_eq_true_iff, decide_eq_true_iff]
        exact ⟨fun z => (List.cons.inj z).2, fun z => by rw [z]⟩
      refine ite2 (fun h => ?_) (fun h => ?_)
      · have h2 : (!decide (r = [48])) = true := by rw [← e1]; exact h
        have hs := slice_one hx
        refine ⟨_, rfl, 1, rfl, x, rfl, Nat.le_trans hz (by decide), Txt.slice x (some 1) none, rfl, ?_, ?_, fun H' sm => ?_⟩
        · intro c hc
          rw [hs] at hc
          exact hA c (by rw [hx]; exact List.mem_cons_of_mem _ hc)
        · exact Nat.le_trans (Txt.slice_le x _ _) hz
        · have q := hk H' sm
          rw [hs]
          have e2 : isNumL (45 :: r) = isCountL r := by
            show (!decide (r = [48]) && isCountL r) = _
            rw [h2]; rfl
          rw [e2] at q
          exact q
      · have h2 : (!decide (r = [48])) = false := by
          rw [← e1]
          exact Bool.eq_false_iff.mpr h
        have e2 : isNumL (45 :: r) = false := by
          show (!decide (r = [48]) && isCountL r) = _
          rw [h2]; rfl
        have q := hk H (Same.refl H)
        rw [e2] at q
        exact q
    · have h1 : (sg x).head? ≠ some 45 := fun z => h (decide_eq_true z)
      refine ⟨_, rfl, x, rfl, hA, hz, fun H' sm => ?_⟩
      have e2 : isNumL (sg x) = isCountL (sg x) := by
        unfold isNumL
        split
        · rename_i r e; rw [e] at h1; exact absurd rfl h1
        · rfl
      have q := k H' sm
      rw [e2] at q
      exact q
def sp_pieces_of : Sp := fun vs H Q _ => ∃ (x : Str), vs = [.str x] ∧ x.length ≤ 100000 ∧ ∀ l, H l = none → Q (.ref l) (upd H l (.lst ((pieces x).map V.str)))
theorem ok_pieces_of (D : DefIs K mg "pieces_of" s_pieces_of ["line"]) : Has P w K mg base 1 "pieces_of" ["line"] sp_pieces_of := by
  refine D.has sc_pieces_of (fun vs H Q E h => ?_) fun f cdv A outer s H vs Q E hr h => ?_
  · obtain ⟨x, rfl, _⟩ := h; rfl
  · obtain ⟨x, rfl, hz, k⟩ := h
    refine ⟨_, pss_one (ps_ret (pe_ifExp (pt_cmpR op_eq (pv 0) pe_str (nomark _)) (pe_lst pa_nil) (pe_bm PySem.F.plainAttrs_str PySem.F.slot_str_split PySem.F.type_str_split mt_split (pv 0) (pa_cons pe_str pa_nil)))), ?_⟩
    refine ⟨_, rfl, rfl, _, rfl, ?_⟩
    unfold pieces at k
    refine ite2 (fun h => ?_) (fun h => ?_)
    · have h1 : x = "" := V.str.inj (of_decide_eq_true h)
      rw [if_pos h1] at k
      exact ⟨by decide, k⟩
    · have h1 : ¬ x = "" := fun z => h (decide_eq_true (congrArg V.str z))
      rw [if_neg h1] at k
      refine ⟨_, rfl, rfl, x, ",", rfl, rfl, rfl, Nat.le_trans hz (by decide), ?_, k⟩
      have hl : ∀ (cuts : List Nat) (a : Nat), (StrLaws.partsFrom x 1 a cuts).length = cuts.length + 1 := by
        intro cuts
        induction cuts with
        | nil => intro a; rfl
        | cons c r ih => intro a; show (StrLaws.partsFrom x 1 (c + 1) r).length + 1 = _; rw [ih]; rfl
      rw [StrLaws.partsBetween_eq]
      show (StrLaws.partsFrom x 1 0 _).length ≤ _
      rw [hl]
      have := StrLaws.occ_length_le x "," 0 x.length (x.length + 1)
      exact Nat.le_trans (show _ ≤ 100002 by omega) (by decide)
def sp_are_lines : Sp := fun vs H Q _ => ∃ (a : Addr) (ts : List Str), vs = [.ref a] ∧ H a = some (.lst (ts.map V.str)) ∧ ts.length ≤ 1000 ∧ ∀ H', Same H H' → Q (.bl true) H'
theorem ok_are_lines (B : Blt mg) (D : DefIs K mg "are_lines" s_are_lines ["lines"]) : Has P w K mg base 1 "are_lines" ["lines"] sp_are_lines := by
  refine D.has sc_are_lines (fun vs H Q E h => ?_) fun f cdv A outer s H vs Q E hr h => ?_
  · obtain ⟨a, ts, rfl, _⟩ := h; rfl
  · obtain ⟨a, ts, rfl, ha, hz, k⟩ := h
    refine ⟨_, pss_one (ps_ret (pe_and (pe_callB call_isi (by rfl) B.isinstance boot_isinstance (pa_cons (pv 0) (pa_cons (pe_ty (by rfl) B.list boot_list) pa_nil))) (pe_one (pe_callB (call_all_bl rfl) (by rfl) B.all boot_all (pa_cons (pe_comp (sc := defScope s_are_lines) (XN := ["lines"]) (own := ["line"]) (fr := []) (js := []) rfl rfl rfl (⟨rfl, by decide +kernel, by decide +kernel, by decide +kernel, rfl, by decide +kernel⟩) (pi_list (pv 0)) (fun _ _ _ _ _ => (pg_name (i := 0) (show List.Nodup (["line"] : List Str) by decide +kernel) rfl (Or.inl rfl))) (fun _ _ _ _ _ => pts_nil) (fun _ _ _ _ _ => (pe_callB (call_isiK (K := K) rfl) (by rfl) B.isinstance boot_isinstance (pa_cons (pv 0) (pa_cons (pe_ty (by rfl) B.str boot_str10) pa_nil))))) pa_nil))))), ?_⟩
    refine ⟨_, rfl, _, _, _, true, rfl, .lst ha, by rfl, _, rfl, iteT ?_⟩
    refine ⟨_, rfl, a, rfl, ⟨_, SqL.of ha⟩, ?_⟩
    refine comp_list (K := K) (xs := ts.map V.str) (fun i => some (V.bl true)) (SqL.of ha) (by rw [List.length_map]; omega) ?_ ?_
    · intro H2 s2 D' hD'
      have e : (List.range (ts.map V.str).length).filterMap (fun i => some (V.bl true)) = (List.replicate ts.length true).map V.bl := by
        rw [List.length_map, show (fun (i : Nat) => some (V.bl true)) = some ∘ (fun _ => V.bl true) from rfl, List.filterMap_eq_map, List.map_const', List.length_range, List.map_replicate]
      rw [e]
      have s3 := s2.upd hD' (o := HO.lst ((List.replicate ts.length true).map V.bl))
      have a3 : (upd H2 D' (.lst ((List.replicate ts.length true).map V.bl))) D' = some (.lst ((List.replicate ts.length true).map V.bl)) := upd_same
      generalize upd H2 D' (.lst ((List.replicate ts.length true).map V.bl)) = H3 at s3 a3
      refine ⟨D', _, rfl, SqL.of a3, ?_⟩
      have ea : (List.replicate ts.length true).all id = true := by
        rw [List.all_eq_true]
        intro b hb
        exact List.eq_of_mem_replicate hb
      rw [ea]
      exact k H3 s3
    · intro i ys H2 x N hx s2 hN
      rw [List.getElem?_map] at hx
      cases hc : ts[i]? with
      | none => rw [hc] at hx; cases hx
      | some c =>
        rw [hc] at hx
        cases hx
        exact ⟨_, rfl, _, _, _, true, rfl, .str c, by rfl, hN _ s2⟩
end

theorem cut1 (xs : List V) : cutV xs (some 1) none = xs.drop 1 := by
  unfold cutV
  rw [show (1 : Int) = ((1 : Nat) : Int) from rfl, HT.sIx_nat, HT.sIx_none]
  by_cases h : 1 ≤ xs.length
  · rw [Nat.min_eq_left h, List.take_of_length_le (by rw [List.length_drop]; exact Nat.le_refl _)]
  · rw [Nat.min_eq_right (by omega), List.drop_of_length_le (Nat.le_refl _), List.drop_of_length_le (by omega)]; exact List.take_nil

end Hf

namespace Hf
open PySem PySem.Spec PyProof.Rows L2
/-! ### reading with its refusals -/
theorem strSub_mem {x : Str} {i j : Nat} : ∀ c ∈ sg (Builtin.Str.strSub x i j), c ∈ sg x := fun c hc => by
  obtain ⟨k, _, _, h⟩ := mem_sub hc
  exact List.mem_of_getElem? h
theorem strSub_len {x : Str} {i j : Nat} : (Builtin.Str.strSub x i j).length ≤ x.length := by
  rw [← sg_len, ← sg_len]
  show (Builtin.Str.strSub x i j).cps.toList.length ≤ _
  rw [StrLaws.strSub_toList, List.length_take, List.length_drop]
  show _ ≤ x.cps.toList.length
  omega
theorem partsFrom_sub {x : Str} {w : Nat} : ∀ (cuts : List Nat) (a : Nat), ∀ p ∈ StrLaws.partsFrom x w a cuts, ∃ i j, p = Builtin.Str.strSub x i j
  | [], a, p, h => ⟨a, _, List.mem_singleton.mp h⟩
  | c :: r, a, p, h => by
    rcases List.mem_cons.mp h with e | e
    · exact ⟨a, c, e⟩
    · exact partsFrom_sub r (c + w) p e
theorem pieces_sub {x p : Str} (h : p ∈ pieces x) : (∀ c ∈ sg p, c ∈ sg x) ∧ p.length ≤ x.length := by
  unfold pieces at h
  split at h
  · exact absurd h (by simp)
  · unfold Txt.split at h
    split at h
    · rw [List.mem_singleton.mp h]; exact ⟨fun _ z => z, Nat.le_refl _⟩
    · split at h
      · rw [List.mem_singleton.mp h]; exact ⟨fun _ z => z, Nat.le_refl _⟩
      · rw [StrLaws.partsBetween_eq] at h
        obtain ⟨i, j, rfl⟩ := partsFrom_sub _ _ p h
        exact ⟨strSub_mem, strSub_len⟩
theorem pieces_len (x : Str) : (pieces x).length ≤ x.length + 2 := by
  unfold pieces
  split
  · exact Nat.zero_le _
  · unfold Txt.split
    split
    · show 1 ≤ _; omega
    · split
      · show 1 ≤ _; omega
      · have hl : ∀ (cuts : List Nat) (a : Nat), (StrLaws.partsFrom x 1 a cuts).length = cuts.length + 1 := by
          intro cuts
          induction cuts with
          | nil => intro a; rfl
          | cons c r ih => intro a; show (StrLaws.partsFrom x 1 (c + 1) r).length + 1 = _; rw [ih]; rfl
        rw [StrLaws.partsBetween_eq]
        show (StrLaws.partsFrom x 1 0 _).length ≤ _
        rw [hl]
        have := StrLaws.occ_length_le x "," 0 x.length (x.length + 1)
        omega
/-- a line's row, and whether it is one of m costs -/
def rowR (x : Str) : HRow := (pieces x).map fun p => (costOf (sg p)).getD none
def okRow (m : Int) (x : Str) : Bool := decide (((pieces x).length : Int) = m) && (pieces x).all fun p => (costOf (sg p)).isSome
def okLines : List Str → Bool
  | [] => false
  | h :: r => isCountL (sg h) && r.all (okRow (numVal (sg h)))
abbrev Txl (x : Str) : Prop := Asc x ∧ x.length ≤ 600
section
variable {P : Program} {w : World} {K : PySem.W.Frag} {mg : Str → Option Value} {base : Heap} {CN : Addr}
def sp_read_countE (CN : Addr) : Sp := fun vs H Q E => ∃ (x : Str), vs = [.str x] ∧ Txl x ∧ ∀ H', Same H H' → (isCountL (sg x) = true → Q (.int (numVal (sg x))) H') ∧ (isCountL (sg x) = false → E (.ref CN) none H')
theorem ok_read_countE (B : Blt mg) (GN : ExC K mg "NoNote" CN) (Gc : Has P w K mg base 1 "is_count" ["text"] sp_is_count) (D : DefIs K mg "read_count" s_read_count ["line"]) : HasE P w K mg base 2 "read_count" ["line"] (sp_read_countE CN) := by
  refine D.hasE sc_read_count (fun vs H Q E h => ?_) fun f cdv A outer s H vs Q E hr h => ?_
  · obtain ⟨x, rfl, _⟩ := h; rfl
  · obtain ⟨x, rfl, ⟨hA, hz⟩, k⟩ := h
    have hz' : x.length ≤ 640 := by omega
    refine ⟨_, pss_cons (ps_if (pt_not (pt_val (pe_fn Gc hr (by rfl) (pa_cons (pv 0) pa_nil)))) (pss_one (ps_raise (E := E) (C := CN) GN rfl (by rfl) raises_def (pa_cons pe_str pa_nil))) pss_nil) (pss_one (ps_ret (pe_callTy call_int_text (by rfl) B.int boot_int (pa_cons (pv 0) pa_nil)))), ?_⟩
    refine ⟨_, rfl, x, rfl, hA, hz', fun H' sm => ?_⟩
    cases hc : isCountL (sg x) with
    | true =>
      refine ⟨true, rfl, iteF ?_⟩
      exact ⟨_, rfl, x, _, rfl, num_text (count_num hc).1 hz', hz', (k H' sm).1 hc⟩
    | false =>
      exact ⟨false, rfl, iteT ⟨by decide, (k H' sm).2 hc⟩⟩
def sp_read_costE (CN : Addr) : Sp := fun vs H Q E => ∃ (x : Str), vs = [.str x] ∧ Txl x ∧ ∀ H', Same H H' → (∀ c, costOf (sg x) = some c → Q (cellV c) H') ∧ (costOf (sg x) = none → E (.ref CN) none H')
theorem ok_read_costE (B : Blt mg) (GN : ExC K mg "NoNote" CN) (Gn : Has P w K mg base 2 "is_number" ["text"] sp_is_number) (D : DefIs K mg "read_cost" s_read_cost ["piece"]) : HasE P w K mg base 3 "read_cost" ["piece"] (sp_read_costE CN) := by
  refine D.hasE sc_read_cost (fun vs H Q E h => ?_) fun f cdv A outer s H vs Q E hr h => ?_
  · obtain ⟨x, rfl, _⟩ := h; rfl
  · obtain ⟨x, rfl, ⟨hA, hz⟩, k⟩ := h
    have hz' : x.length ≤ 640 := by omega
    refine ⟨_, pss_cons (ps_if (pt_cmpR op_eq (pv 0) pe_str (nomark _)) (pss_one (ps_ret pe_non)) pss_nil) (pss_cons (ps_if (pt_not (pt_val (pe_fn Gn hr (by rfl) (pa_cons (pv 0) pa_nil)))) (pss_one (ps_raise (E := E) (C := CN) GN rfl (by rfl) raises_def (pa_cons pe_str pa_nil))) pss_nil) (pss_one (ps_ret (pe_callTy call_int_text (by rfl) B.int boot_int (pa_cons (pv 0) pa_nil))))), ?_⟩
    refine ⟨_, rfl, rfl, _, rfl, ?_⟩
    rw [str_eq]
    have e0 : sg ("no" : Str) = [110, 111] := by decide +kernel
    refine ite2 (fun h => ?_) (fun h => ?_)
    · have h1 : sg x = [110, 111] := e0 ▸ of_decide_eq_true h
      exact (k H (Same.refl H)).1 none (by unfold costOf; rw [if_pos h1])
    · have h1 : ¬ sg x = [110, 111] := fun z => h (decide_eq_true (z.trans e0.symm))
      refine ⟨_, rfl, x, rfl, hA, hz', fun H' sm => ?_⟩
      cases h2 : isNumL (sg x) with
      | true =>
        refine ⟨true, rfl, iteF ?_⟩
        exact ⟨_, rfl, x, _, rfl, num_text h2 hz', hz', (k H' sm).1 (some (numVal (sg x))) (by unfold costOf; rw [if_neg h1, if_pos h2])⟩
      | false =>
        exact ⟨false, rfl, iteT ⟨by decide, (k H' sm).2 (by unfold costOf; rw [if_neg h1, if_neg (by rw [h2]; decide)])⟩⟩
def sp_read_rowE (CN : Addr) : Sp := fun vs H Q E => ∃ (m : Int) (x : Str), vs = [.int m, .str x] ∧ Txl x ∧ (okRow m x = true → ∀ l H', Same H H' → H l = none → H' l = some (.lst ((rowR x).map cellV)) → Q (.ref l) H') ∧ (okRow m x = false → ∀ H', Same H H' → E (.ref CN) none H')
theorem ok_read_rowE (B : Blt mg) (GN : ExC K mg "NoNote" CN) (Gp : Has P w K mg base 1 "pieces_of" ["line"] sp_pieces_of) (Gc : HasE P w K mg base 3 "read_cost" ["piece"] (sp_read_costE CN)) (D : DefIs K mg "read_row" s_read_row ["many", "line"]) : HasE P w K mg base 4 "read_row" ["many", "line"] (sp_read_rowE CN) := by
  refine D.hasE sc_read_row (fun vs H Q E h => ?_) fun f cdv A outer s H vs Q E hr h => ?_
  · obtain ⟨m, x, rfl, _⟩ := h; rfl
  · obtain ⟨m, x, rfl, ⟨hA, hz⟩, kQ, kE⟩ := h
    refine ⟨_, pss_cons (ps_set (i := 2) sc_read_row.nd rfl (Or.inl rfl) (pe_fn Gp (hr.mono (by decide)) (by rfl) (pa_cons (pv 1) pa_nil)))
      (pss_cons (ps_if (pt_cmpR op_ne (pe_callB call_len_seq (by rfl) B.len boot_len (pa_cons (pv 2) pa_nil)) (pv 0) (nomark _)) (pss_one (ps_raise (E := E) (C := CN) GN rfl (by rfl) raises_def (pa_cons pe_str pa_nil))) pss_nil)
      (pss_one (ps_ret (pe_compE (E := E) (sc := defScope s_read_row) (XN := ["many", "line", "pieces"]) (own := ["piece"]) (fr := []) (js := []) rfl rfl rfl rfl rfl rfl leaves_def (⟨rfl, by decide +kernel, by decide +kernel, by decide +kernel, rfl, by decide +kernel⟩) (pi_list (pv 2)) (fun _ _ _ _ _ => (pg_name (i := 0) (show List.Nodup (["piece"] : List Str) by decide +kernel) rfl (Or.inl rfl))) (fun _ _ _ _ _ => pts_nil) (fun _ _ _ _ _ => (pe_fnE (E := fun _ => E) Gc hr (by rfl) passC (pa_cons (pv 0) pa_nil))))))), ?_⟩
    refine ⟨_, rfl, x, rfl, by omega, fun l hl => ?_⟩
    have s1 : Same H (upd H l (.lst ((pieces x).map V.str))) := (Same.refl H).upd hl
    have a1 : (upd H l (.lst ((pieces x).map V.str))) l = some (.lst ((pieces x).map V.str)) := upd_same
    generalize upd H l (.lst ((pieces x).map V.str)) = H1 at s1 a1
    refine ⟨_, rfl, l, _, rfl, .inl (SqL.of a1), _, rfl, rfl, _, rfl, ?_⟩
    rw [List.length_map]
    refine ite2 (fun h => ?_) (fun h => ?_)
    · have h1 : ((pieces x).length : Int) ≠ m := neI h
      refine ⟨by decide, kE ?_ H1 s1⟩
      unfold okRow
      rw [decide_eq_false h1]; rfl
    · have h1 : ((pieces x).length : Int) = m := eqI h
      have hok : okRow m x = (pieces x).all fun p => (costOf (sg p)).isSome := by
        unfold okRow
        rw [decide_eq_true h1]; rfl
      have hpl := pieces_len x
      refine ⟨_, rfl, l, rfl, ⟨_, SqL.of a1⟩, ?_⟩
      refine comp_list_by (K := K) (xs := (pieces x).map V.str) (fun i ys H2 => Same H1 H2 ∧ ys = ((pieces x).take i).map (fun p => cellV ((costOf (sg p)).getD none)) ∧ ∀ p ∈ (pieces x).take i, (costOf (sg p)).isSome = true)
        ⟨Same.refl H1, rfl, fun p hp => absurd hp (by simp)⟩ (by rw [List.length_map]; omega) ?_ (fun i ys H2 z => SqL.of (z.1 _ _ a1)) ?_ ?_
      · rintro i ys H2 ⟨_, rfl, _⟩
        rw [List.length_map, List.length_take]; omega
      · rintro ys H2 ⟨s2, rfl, hall⟩ D' hD'
        rw [List.length_map, List.take_of_length_le (Nat.le_refl _)] at hall ⊢
        have em : (pieces x).map (fun p => cellV ((costOf (sg p)).getD none)) = (rowR x).map cellV := by unfold rowR; rw [List.map_map]; rfl
        rw [em]
        exact kQ (by rw [hok, List.all_eq_true]; exact hall) D' _ ((s1.trans s2).upd hD') ((s1.trans s2).free hD') upd_same
      · rintro i ys H2 y hy ⟨s2, rfl, hall⟩
        rw [List.getElem?_map] at hy
        cases hp : (pieces x)[i]? with
        | none => rw [hp] at hy; cases hy
        | some p =>
          rw [hp] at hy
          cases hy
          have hpm := List.mem_of_getElem? hp
          obtain ⟨q1, q2⟩ := pieces_sub hpm
          refine ⟨_, rfl, p, rfl, ⟨fun c hc => hA c (q1 c hc), by omega⟩, fun H3 s3 => ⟨fun c hc => ?_, fun hc => ?_⟩⟩
          · have et : (pieces x).take (i + 1) = (pieces x).take i ++ [p] := by rw [List.take_add_one, hp]; rfl
            refine ⟨s2.trans s3, ?_, fun q hq => ?_⟩
            · rw [et, List.map_append]
              show _ = _ ++ [cellV ((costOf (sg p)).getD none)]
              rw [hc]; rfl
            · rw [et] at hq
              rcases List.mem_append.mp hq with z | z
              · exact hall q z
              · rw [List.mem_singleton.mp z, hc]; rfl
          · refine kE ?_ H3 ((s1.trans s2).trans s3)
            rw [hok, Bool.eq_false_iff]
            intro z
            have := List.all_eq_true.mp z p hpm
            rw [hc] at this
            cases this
/-- lines that write a table, or not -/
def sp_readE (CN : Addr) : Sp := fun vs H Q E => ∃ (a : Addr) (ts : List Str), vs = [.ref a] ∧ H a = some (.lst (ts.map V.str)) ∧ ts.length ≤ 100 ∧ (∀ t ∈ ts, Txl t) ∧
  (∀ hd rs, ts = hd :: rs → okLines ts = true → ∀ tp l as H', Same H H' → H' tp = some (.tup [.int (numVal (sg hd)), .ref l]) → Own H' l as (rs.map rowR) → Q (.ref tp) H') ∧ (okLines ts = false → ∀ H', Same H H' → E (.ref CN) none H')
theorem ok_readE (B : Blt mg) (GN : ExC K mg "NoNote" CN) (Ga : Has P w K mg base 1 "are_lines" ["lines"] sp_are_lines) (Gn : HasE P w K mg base 2 "read_count" ["line"] (sp_read_countE CN)) (Gr : HasE P w K mg base 4 "read_row" ["many", "line"] (sp_read_rowE CN)) (D : DefIs K mg "read" s_read ["lines"]) :
    HasE P w K mg base 5 "read" ["lines"] (sp_readE CN) := by
  refine D.hasE sc_read (fun vs H Q E h => ?_) fun f cdv A outer s H vs Q E hr h => ?_
  · obtain ⟨a, ts, rfl, _⟩ := h; rfl
  · obtain ⟨a, ts, rfl, ha, hz, hx, kQ, kE⟩ := h
    refine ⟨_, pss_cons (ps_if ((pw_or (pt_not (pt_val (pe_fn Ga (hr.mono (by decide)) (by rfl) (pa_cons (pv 0) pa_nil)))) (pw_or1 (pt_cmpR op_eq (pe_callB call_len_seq (by rfl) B.len boot_len (pa_cons (pv 0) pa_nil)) pe_int (nomark _))))).pt (pss_one (ps_raise (E := E) (C := CN) GN rfl (by rfl) raises_def (pa_cons pe_str pa_nil))) pss_nil)
      (pss_cons (ps_set (i := 1) sc_read.nd rfl (Or.inr rfl) (pe_fnE (E := fun _ => E) Gn (hr.mono (by decide)) (by rfl) (fun pins σ H s e s' I h => pass_def pins σ H s e s' I h) (pa_cons (pe_ix ix_list (pv 0) pe_int (fun _ _ => rfl)) pa_nil)))
      (pss_one (ps_ret (pe_tup (pa_cons (pv 1) (pa_cons (pe_compE (E := E) (sc := defScope s_read) (XN := ["lines", "many"]) (own := ["line"]) (fr := ["many"]) (js := [1]) rfl rfl rfl rfl rfl rfl leaves_def (⟨rfl, by decide +kernel, by decide +kernel, by decide +kernel, rfl, by decide +kernel⟩) (pi_list (pe_slice sl_list (pv 0) (po_some pe_int) po_none)) (fun _ _ _ _ _ => (pg_name (i := 0) (show List.Nodup (["line", "many"] : List Str) by decide +kernel) rfl (Or.inl rfl))) (fun _ _ _ _ _ => pts_nil) (fun _ _ _ _ _ => (pe_fnE (E := fun _ => E) Gr hr (by rfl) passC (pa_cons (pv 1) (pa_cons (pv 0) pa_nil))))) pa_nil)))))), ?_⟩
    refine ⟨_, rfl, a, ts, rfl, ha, by omega, fun H1 s1 => ?_⟩
    refine ⟨true, rfl, iteF ?_⟩
    refine ⟨_, rfl, a, _, rfl, .inl (SqL.of (s1 _ _ ha)), rfl, _, rfl, ?_⟩
    cases ts with
    | nil => exact iteT ⟨by decide, kE rfl H1 s1⟩
    | cons hd rs =>
      have e0 : decide (V.int ((((hd :: rs).map V.str).length : Nat) : Int) = V.int 0) = false := decide_eq_false fun z => by
        have := V.int.inj z
        rw [List.length_map, List.length_cons] at this
        omega
      rw [e0]
      refine iteF ?_
      refine ⟨_, rfl, a, _, _, .str hd, rfl, rfl, SqL.of (s1 _ _ ha), atI_nat (j := 0) rfl, hd, rfl, hx hd List.mem_cons_self, fun H2 s2 => ⟨fun hc => ?_, fun hc => ?_⟩⟩
      · generalize hm : numVal (sg hd) = m at kQ
        have hok : okLines (hd :: rs) = rs.all (okRow m) := by
          show (isCountL (sg hd) && rs.all (okRow (numVal (sg hd)))) = _
          rw [hc, hm]; rfl
        have ha2 := s2 _ _ (s1 _ _ ha)
        refine ⟨_, rfl, _, rfl, 1, rfl, a, _, rfl, SqL.of ha2, fun q hq => ?_⟩
        rw [cut1]
        have e1 : List.drop 1 ((hd :: rs).map V.str) = rs.map V.str := rfl
        rw [e1]
        have s3 : Same H2 (upd H2 q (.lst (rs.map V.str))) := (Same.refl H2).upd hq
        have a3 : (upd H2 q (.lst (rs.map V.str))) q = some (.lst (rs.map V.str)) := upd_same
        generalize upd H2 q (.lst (rs.map V.str)) = H3 at s3 a3
        refine ⟨q, rfl, ⟨_, SqL.of a3⟩, ?_⟩
        have s03 := (s1.trans s2).trans s3
        rw [List.length_cons] at hz
        refine comp_list_by (K := K) (xs := rs.map V.str) (fun i ys H4 => Same H3 H4 ∧ (∀ t ∈ rs.take i, okRow m t = true) ∧ ∃ bs : List Addr, ys = bs.map V.ref ∧ bs.length = i ∧ bs.Nodup ∧ (∀ (j : Nat) b t, bs[j]? = some b → rs[j]? = some t → H4 b = some (.lst ((rowR t).map cellV))) ∧ i ≤ rs.length)
          ⟨Same.refl H3, fun t ht => absurd ht (by simp), [], rfl, rfl, List.nodup_nil, fun j b r e => (by simp at e), Nat.zero_le _⟩ (by rw [List.length_map]; omega) ?_ (fun i ys H4 p => SqL.of (p.1 _ _ a3)) ?_ ?_
        · rintro i ys H4 ⟨_, _, bs, rfl, hb, _⟩
          rw [List.length_map]; omega
        · rintro ys H4 ⟨sm, hall, bs, rfl, hb, nd, hrows, _⟩ D' hD'
          rw [List.length_map] at hb
          rw [List.length_map, List.take_of_length_le (Nat.le_refl _)] at hall
          have there : ∀ b ∈ bs, ∃ o, H4 b = some o := fun b hb' => by
            obtain ⟨j, hj, ej⟩ := List.mem_iff_getElem.mp hb'
            have hjT : j < rs.length := by omega
            exact ⟨_, hrows j b rs[j] (by rw [← ej]; exact List.getElem?_eq_getElem hj) (List.getElem?_eq_getElem hjT)⟩
          have hne : ∀ b ∈ bs, b ≠ D' := fun b hb' e => by
            obtain ⟨o, ho⟩ := there b hb'
            rw [e, hD'] at ho
            cases ho
          refine ⟨by show 2 ≤ sizeLine; decide, fun tp htp => ?_⟩
          have hD2 : tp ≠ D' := fun e => by rw [e, upd_same] at htp; cases htp
          have s5 : Same H4 (upd H4 D' (.lst (bs.map V.ref))) := (Same.refl H4).upd hD'
          refine kQ hd rs rfl (by rw [hok, List.all_eq_true]; exact hall) tp D' bs _ (((s03.trans sm).trans s5).upd htp) (by rw [hm]; exact upd_same) ⟨(upd_ne (Ne.symm hD2)).trans upd_same, by rw [List.length_map]; omega, List.nodup_cons.mpr ⟨fun z => hne _ z rfl, nd⟩, fun i b r e1 e2 => ?_⟩
          have hbm := List.mem_of_getElem? e1
          rw [List.getElem?_map] at e2
          cases ht : rs[i]? with
          | none => rw [ht] at e2; cases e2
          | some t =>
            rw [ht] at e2
            cases e2
            have h4 := s5 _ _ (hrows i b t e1 ht)
            have hbt : b ≠ tp := fun e => by rw [e, htp] at h4; cases h4
            rw [upd_ne hbt]; exact h4
        · rintro i ys H4 x hx' ⟨sm, hall, bs, rfl, hb, nd, hrows, _⟩
          rw [List.getElem?_map] at hx'
          cases hr0 : rs[i]? with
          | none => rw [hr0] at hx'; cases hx'
          | some t =>
            rw [hr0] at hx'
            cases hx'
            have hi := (List.getElem?_eq_some_iff.mp hr0).1
            have htm := List.mem_of_getElem? hr0
            refine ⟨_, rfl, _, rfl, m, t, rfl, hx t (List.mem_cons_of_mem _ htm), fun hokr l H5 s5 hl0 hl1 => ?_, fun hbad H5 s5 => ?_⟩
            · have hne : ∀ b ∈ bs, b ≠ l := fun b hb' e => by
                obtain ⟨j, hj, ej⟩ := List.mem_iff_getElem.mp hb'
                have hjT : j < rs.length := by omega
                have := hrows j b rs[j] (by rw [← ej]; exact List.getElem?_eq_getElem hj) (List.getElem?_eq_getElem hjT)
                rw [e, hl0] at this
                cases this
              refine ⟨sm.trans s5, fun q hq => ?_, bs ++ [l], by rw [List.map_append]; rfl, by rw [List.length_append, hb]; rfl, ?_, fun j b r' e1 e2 => ?_, hi⟩
              · have et : rs.take (i + 1) = rs.take i ++ [t] := by rw [List.take_add_one, hr0]; rfl
                rw [et] at hq
                rcases List.mem_append.mp hq with z | z
                · exact hall q z
                · rw [List.mem_singleton.mp z]; exact hokr
              · rw [List.nodup_append]
                refine ⟨nd, by simp, fun a1 h1 b1 h2 => ?_⟩
                have : b1 = l := by simpa using h2
                rw [this]; exact hne a1 h1
              · by_cases hj : j < bs.length
                · rw [List.getElem?_append_left hj] at e1
                  exact s5 _ _ (hrows j b r' e1 e2)
                · have hlt := (List.getElem?_eq_some_iff.mp e1).1
                  rw [List.length_append, List.length_singleton] at hlt
                  have hji : j = bs.length := by omega
                  subst hji
                  rw [List.getElem?_append_right (Nat.le_refl _), Nat.sub_self] at e1
                  cases e1
                  rw [hb, hr0] at e2
                  cases e2
                  exact hl1
            · refine kE ?_ H5 ((s03.trans sm).trans s5)
              rw [hok, Bool.eq_false_iff]
              intro z
              have := List.all_eq_true.mp z t htm
              rw [hbad] at this
              cases this
      · refine kE ?_ H2 (s1.trans s2)
        show (isCountL (sg hd) && _) = false
        rw [hc]; rfl
end

end Hf

namespace Hf
open PySem PySem.Spec PyProof.Rows L2
theorem pa_str {X : Cx} {es : List Expr} {t : TA} {x j pos} (hr : PA X es t) : PA X (.Constant (.str x) j pos :: es) (tCons (tC (.str x)) t) := pa_cons pe_str hr (by rfl)
/-- a reading under a lid (its own text is not run by the elaborator) -/
structure PEw (X : Cx) (e : Expr) (t : TE) : Prop where
  out : PE X e t
theorem pe_lst6 {X : Cx} {x0 x1 x2 x3 x4 x5 : Str} {j0 j1 j2 j3 j4 j5 : Nat} {p0 p1 p2 p3 p4 p5 pos : Pos} : PEw X (.List [.Constant (.str x0) j0 p0, .Constant (.str x1) j1 p1, .Constant (.str x2) j2 p2, .Constant (.str x3) j3 p3, .Constant (.str x4) j4 p4, .Constant (.str x5) j5 p5] pos) (tLst (tCons (tC (.str x0)) (tCons (tC (.str x1)) (tCons (tC (.str x2)) (tCons (tC (.str x3)) (tCons (tC (.str x4)) (tCons (tC (.str x5)) tNil))))))) := ⟨by
  refine pe_lst ?_
  refine pa_str ?_
  refine pa_str ?_
  refine pa_str ?_
  refine pa_str ?_
  refine pa_str ?_
  refine pa_str ?_
  exact pa_nil⟩
theorem pe_lst12 {X : Cx} {x0 x1 x2 x3 x4 x5 x6 x7 x8 x9 x10 x11 : Str} {j0 j1 j2 j3 j4 j5 j6 j7 j8 j9 j10 j11 : Nat} {p0 p1 p2 p3 p4 p5 p6 p7 p8 p9 p10 p11 pos : Pos} : PEw X (.List [.Constant (.str x0) j0 p0, .Constant (.str x1) j1 p1, .Constant (.str x2) j2 p2, .Constant (.str x3) j3 p3, .Constant (.str x4) j4 p4, .Constant (.str x5) j5 p5, .Constant (.str x6) j6 p6, .Constant (.str x7) j7 p7, .Constant (.str x8) j8 p8, .Constant (.str x9) j9 p9, .Constant (.str x10) j10 p10, .Constant (.str x11) j11 p11] pos) (tLst (tCons (tC (.str x0)) (tCons (tC (.str x1)) (tCons (tC (.str x2)) (tCons (tC (.str x3)) (tCons (tC (.str x4)) (tCons (tC (.str x5)) (tCons (tC (.str x6)) (tCons (tC (.str x7)) (tCons (tC (.str x8)) (tCons (tC (.str x9)) (tCons (tC (.str x10)) (tCons (tC (.str x11)) tNil))))))))))))) := ⟨by
  refine pe_lst ?_
  refine pa_str ?_
  refine pa_str ?_
  refine pa_str ?_
  refine pa_str ?_
  refine pa_str ?_
  refine pa_str ?_
  refine pa_str ?_
  refine pa_str ?_
  refine pa_str ?_
  refine pa_str ?_
  refine pa_str ?_
  refine pa_str ?_
  exact pa_nil⟩
structure PSw (X : Cx) (st : Stmt) (t : TS) : Prop where
  out : PS X st t
structure PSsw (X : Cx) (b : List Stmt) (t : TS) : Prop where
  out : PSs X b t
theorem w_cons {X : Cx} {st : Stmt} {rest : List Stmt} {t u : TS} (h1 : PSw X st t) (h2 : PSsw X rest u) : PSsw X (st :: rest) (tSeq t u) := ⟨pss_cons h1.out h2.out⟩
theorem w_of {X : Cx} {b : List Stmt} {t : TS} (h : PSs X b t) : PSsw X b t := ⟨h⟩
theorem w_set {X : Cx} {i : Nat} {x : Str} {e : Expr} {te : TE} {pos pos' : Pos} (hN : X.N.Nodup) (hi : X.N[i]? = some x) (hx : Loc X.env.scope x) (he : PEw X e te) (hs : swapsWith e (some (.Name x pos')) pos.line X.env = pure false := by rfl) (hf : X.fn x = true ∨ X.env.scope.names.lookup x = some .local := by first | exact .inl rfl | exact .inr rfl | assumption) :
    PSw X (.Assign [.Name x pos'] e pos) (tAsg te (gName i)) := ⟨ps_set hN hi hx he.out hs hf⟩
section
variable {P : Program} {w : World} {K : PySem.W.Frag} {mg : Str → Option Value} {base : Heap}
theorem hasW {x : Str} {st : Stmt} {N ps : List Str} {k : Nat} {sp : Sp} (D : DefIs K mg x st ps) (S : FnScope N ps (defScope st)) (len : ∀ vs H Q E, sp vs H Q E → vs.length = ps.length)
    (hbody : ∀ (f : Addr) (cdv : Value) (A : Around) (outer : List Env) (s : Shared) (H : Hp) (vs : List V) (Q : VK) (E : XK), Room k (A.deeper (envOfC x (defScope st) s.heap.objs.size f cdv)) → sp vs H Q E →
      ∃ t, PSsw (cxOf CX0 P w K mg base N x (defScope st) f cdv A outer s H E).nox (defBody st) t ∧ t { nx := fun _ H' => Q .non H', rt := Q } (start N vs) H) : Has P w K mg base (k + 1) x ps sp :=
  D.has S len fun f cdv A outer s H vs Q E hr h => by
    obtain ⟨t, ⟨h1⟩, h2⟩ := hbody f cdv A outer s H vs Q E hr h
    exact ⟨t, h1, h2⟩
end
theorem op_eq_one {X : Cx} (hu : X.A.units < cLine) : OpR X (compareOp .Eq) (fun x y H Q => ∃ (a b : Addr) (ts : List Str) (t : Str), x = .ref a ∧ y = .ref b ∧ SqL X.K H a (ts.map V.str) ∧ SqL X.K H b [.str t] ∧ Q (.bl (decide (ts = [t]))) H) := by
  intro pins s σ H x y v u Q I rx ry h
  obtain ⟨a, b, ts, t, rfl, rfl, ha, hb, q⟩ := h
  cases rx
  cases ry
  obtain ⟨its, rv, pl, hz⟩ := I.list ha
  obtain ⟨its2, rv2, pl2, hz2⟩ := I.list hb
  obtain ⟨w1, rfl, t1, rfl⟩ := vals1 rv2
  have hlen := rv.length
  rw [List.length_map] at hlen
  match ts, rv, hlen, pl, q with
  | [], rv, hlen, pl, q =>
    refine SeqAt.RcAt.lists_lengths pl.isList pl2.isList (by cases rv; rfl) hu _ _ _ _ ⟨.bl _, H, I, rfl, ?_⟩
    exact q
  | [c], rv, hlen, pl, q =>
    obtain ⟨w2, rfl, t2, rfl⟩ := vals1 rv
    refine SeqAt.RcAt.lists pl.isList pl2.isList rfl hu (e := fun _ => c == t) (fun j h1 h2 => ?_) _ _ _ _ ⟨.bl _, H, I, rfl, ?_⟩
    · match j, h1, h2 with
      | 0, _, _ => exact SeqAt.EqAt.str_str c t2 t t1
      | n + 1, h1, _ => exact absurd h1 (by simp)
    · have e : ((List.range [Value.str c t2].toArray.size).all fun _ => c == t) = decide ([c] = [t]) := by
        show (List.all [0] fun _ => c == t) = _
        rw [Bool.eq_iff_iff]
        simp
      rw [e]
      exact q
  | c :: d :: r, rv, hlen, pl, q =>
    refine SeqAt.RcAt.lists_lengths pl.isList pl2.isList ?_ hu _ _ _ _ ⟨.bl _, H, I, rfl, ?_⟩
    · rw [bne_iff_ne]
      simp only [List.size_toArray, List.length_cons, List.length_nil] at hlen ⊢
      omega
    · have e : decide (c :: d :: r = [t]) = false := decide_eq_false (by simp)
      rw [e] at q
      exact q
def atV (ns : List Int) (i : Int) : Int := ns.getD i.toNat 0
structure PieceOk (p : Str) (b : Bool) : Prop where
  is : (costOf (sg p)).isSome = b
  com : 44 ∉ sg p
  asc : ∀ c ∈ sg p, c < 128
  len : p.length ≤ 30
theorem pieceOk_of {p : Str} {b : Bool} (h : ((costOf (sg p)).isSome == b && !(sg p).contains 44 && (sg p).all (fun c => decide (c < 128)) && decide (p.length ≤ 30)) = true) : PieceOk p b := by
  simp only [Bool.and_eq_true, beq_iff_eq, Bool.not_eq_true', decide_eq_true_eq, List.all_eq_true] at h
  obtain ⟨⟨⟨h1, h2⟩, h3⟩, h4⟩ := h
  refine ⟨h1, fun z => ?_, h3, h4⟩
  rw [List.contains_iff_mem.mpr z] at h2
  cases h2
theorem bad_at : ∀ n : Nat, n < 12 → ∃ p, atI [V.str "-0", .str "07", .str "+3", .str "No", .str "", .str " 4", .str "1_0", .str "4 ", .str "\t4", .str "3.0", .str "--3", .str "-"] (n : Int) = some (.str p) ∧ PieceOk p false
  | 0, _ => ⟨_, rfl, pieceOk_of (by decide +kernel)⟩
  | 1, _ => ⟨_, rfl, pieceOk_of (by decide +kernel)⟩
  | 2, _ => ⟨_, rfl, pieceOk_of (by decide +kernel)⟩
  | 3, _ => ⟨_, rfl, pieceOk_of (by decide +kernel)⟩
  | 4, _ => ⟨_, rfl, pieceOk_of (by decide +kernel)⟩
  | 5, _ => ⟨_, rfl, pieceOk_of (by decide +kernel)⟩
  | 6, _ => ⟨_, rfl, pieceOk_of (by decide +kernel)⟩
  | 7, _ => ⟨_, rfl, pieceOk_of (by decide +kernel)⟩
  | 8, _ => ⟨_, rfl, pieceOk_of (by decide +kernel)⟩
  | 9, _ => ⟨_, rfl, pieceOk_of (by decide +kernel)⟩
  | 10, _ => ⟨_, rfl, pieceOk_of (by decide +kernel)⟩
  | 11, _ => ⟨_, rfl, pieceOk_of (by decide +kernel)⟩
  | n + 12, h => absurd h (by omega)
/-- a line of pieces, as the law makes it -/
structure LineOf (head : Str) (count : Int) (line : Str) (row : HRow) (clean : Bool) : Prop where
  ex : ∃ ts : List Str, (ts.length : Int) = count ∧ (∀ p ∈ ts, ∃ b, PieceOk p b) ∧ line = Txt.join "," ts ∧ row = ts.filterMap (fun p => costOf (sg p)) ∧ clean = (ts.all (fun p => (costOf (sg p)).isSome) || (decide (head = "0") && decide (ts = [("" : Str)])))
theorem fm_all {ts : List Str} (h : ts.all (fun p => (costOf (sg p)).isSome) = true) : ts.filterMap (fun p => costOf (sg p)) = ts.map fun p => (costOf (sg p)).getD none := by
  induction ts with
  | nil => rfl
  | cons p r ih =>
    rw [List.all_cons, Bool.and_eq_true] at h
    obtain ⟨c, hc⟩ := Option.isSome_iff_exists.mp h.1
    rw [List.filterMap_cons, List.map_cons, hc, ih h.2]
    rfl
theorem join_empty {ts : List Str} (h : Txt.join "," ts = "") : ts = [] ∨ ts = [("" : Str)] := by
  have h' : Str.join "," ts = "" := (StrLaws.glued_eq_join _ _).symm.trans h
  match ts, h' with
  | [], _ => exact .inl rfl
  | [x], h' => exact .inr (congrArg (fun y => [y]) h')
  | x :: y :: r, h' =>
    have e := (join_sg 44 x y r).symm.trans (congrArg sg h')
    have := congrArg List.length e
    rw [List.length_append, List.length_cons] at this
    have e2 : (sg ("" : Str)).length = 0 := rfl
    omega
theorem line_ok {head line : Str} {count : Int} {row : HRow} {clean : Bool} {n : Int} (L : LineOf head count line row clean) (hn : head = "0" ↔ n = 0) : okRow n line = (clean && decide ((row.length : Int) = n)) ∧ (okRow n line = true → rowR line = row) := by
  obtain ⟨ts, hl, hp, rfl, rfl, rfl⟩ := L.ex
  have hcom : ∀ p ∈ ts, 44 ∉ sg p := fun p h => by obtain ⟨b, q⟩ := hp p h; exact q.com
  by_cases he : Txt.join "," ts = ""
  · have hpc : pieces (Txt.join "," ts) = [] := by unfold pieces; rw [if_pos he]
    have hrr : rowR (Txt.join "," ts) = [] := by unfold rowR; rw [hpc]; rfl
    have hok : okRow n (Txt.join "," ts) = decide ((0 : Int) = n) := by
      unfold okRow
      rw [hpc]
      show (decide (((0 : Nat) : Int) = n) && true) = _
      rw [Bool.and_true]; rfl
    rcases join_empty he with rfl | rfl
    · rw [hok, hrr]
      exact ⟨rfl, fun _ => rfl⟩
    · rw [hok, hrr]
      have e1 : ([("" : Str)] : List Str).filterMap (fun p => costOf (sg p)) = [] := by decide +kernel
      rw [e1]
      refine ⟨?_, fun _ => rfl⟩
      have e2 : ([("" : Str)] : List Str).all (fun p => (costOf (sg p)).isSome) = false := by decide +kernel
      rw [e2, decide_eq_true (rfl : ([("" : Str)] : List Str) = [("" : Str)])]
      show _ = ((false || (decide (head = "0") && true)) && decide (((0 : Nat) : Int) = n))
      rw [Bool.false_or, Bool.and_true, Bool.eq_iff_iff, Bool.and_eq_true, decide_eq_true_iff, decide_eq_true_iff, decide_eq_true_iff]
      constructor
      · intro h; exact ⟨hn.mpr h.symm, h⟩
      · intro h; exact h.2
  · have hne : ts ≠ [] := fun z => he (by rw [z]; rfl)
    have hne2 : ts ≠ [("" : Str)] := fun z => he (by rw [z]; rfl)
    have hpc : pieces (Txt.join "," ts) = ts := by
      unfold pieces
      rw [if_neg he]
      have e : Txt.join "," ts = Str.join "," ts := StrLaws.glued_eq_join _ _
      rw [e]
      exact split_join hcom hne
    have hok : okRow n (Txt.join "," ts) = (decide ((ts.length : Int) = n) && ts.all fun p => (costOf (sg p)).isSome) := by
      unfold okRow
      rw [hpc]
    rw [hok, decide_eq_false hne2, Bool.and_false, Bool.or_false]
    cases ha : ts.all (fun p => (costOf (sg p)).isSome) with
    | false =>
      rw [Bool.and_false, Bool.false_and]
      exact ⟨rfl, fun z => (nomatch z)⟩
    | true =>
      rw [fm_all ha, List.length_map, Bool.and_true, Bool.true_and]
      refine ⟨rfl, fun _ => ?_⟩
      unfold rowR
      rw [hpc]
section
variable {P : Program} {w : World} {K : PySem.W.Frag} {mg : Str → Option Value} {base : Heap}
def sp_at2 (K : PySem.W.Frag) : Sp := fun vs H Q _ => ∃ (a : Addr) (ns : List Int) (i : Int), vs = [.ref a, .int i] ∧ IntsAt K H a ns ∧ 0 ≤ i ∧ Q (.int (atV ns i)) H
theorem ok_at2 (B : Blt mg) (D : DefIs K mg "_law_at" s_at ["_law_script", "_law_k"]) : Has P w K mg base 1 "_law_at" ["_law_script", "_law_k"] (sp_at2 K) := by
  refine D.has sc_at (fun vs H Q E h => ?_) fun f cdv A outer s H vs Q E hr h => ?_
  · obtain ⟨a, ns, i, rfl, _⟩ := h; rfl
  · obtain ⟨a, ns, i, rfl, hS, h0, k⟩ := h
    have kk : ∀ x, atV ns i = x → Q (.int x) H := fun x e => e ▸ k
    refine ⟨_, pss_cons (ps_if (pt_cmpR op_lt (pv 1) (pe_callB call_len_seq (by rfl) B.len boot_len (pa_cons (pv 0) pa_nil)) (nomark _)) (pss_one (ps_ret (pe_ix ix_list (pv 0) (pv 1) (fun _ _ => rfl)))) pss_nil)
      (pss_one (ps_ret pe_int)), ?_⟩
    refine ⟨_, rfl, _, rfl, a, _, rfl, .inl hS, _, _, rfl, rfl, _, rfl, ?_⟩
    refine ite2 (fun h => ?_) (fun h => ?_)
    · have h' : i < ((ns.map V.int).length : Int) := of_decide_eq_true h
      rw [List.length_map] at h'
      have hi : i.toNat < ns.length := by omega
      refine ⟨_, rfl, _, rfl, a, _, i, .int ns[i.toNat], rfl, rfl, hS, atI_int h0 (by rw [List.getElem?_map, List.getElem?_eq_getElem hi]; rfl), ?_⟩
      refine kk _ ?_
      unfold atV
      exact getD_get (List.getElem?_eq_getElem hi)
    · have h' : ¬ i < ((ns.map V.int).length : Int) := fun z => h (decide_eq_true z)
      rw [List.length_map] at h'
      refine kk _ ?_
      unfold atV List.getD
      rw [List.getElem?_eq_none_iff.mpr (by omega)]
      rfl
end

end Hf

namespace Hf
open PySem PySem.Spec PyProof.Rows L2
section
variable {P : Program} {w : World} {K : PySem.W.Frag} {mg : Str → Option Value} {base : Heap}
def sp_piece_by : Sp := fun vs H Q _ => ∃ (cell : Int), vs = [.int cell] ∧ ∀ tp (p : Str) (b : Bool) H', PieceOk p b → Same H H' → H' tp = some (.tup [.str p, .bl b]) → Q (.ref tp) H'
theorem ok_piece_by (D : DefIs K mg "_law_piece_by" s_piece_by ["_law_cell"]) : Has P w K mg base 1 "_law_piece_by" ["_law_cell"] sp_piece_by := by
  refine hasW D sc_piece_by (fun vs H Q E h => ?_) fun f cdv A outer s H vs Q E hr h => ?_
  · obtain ⟨cell, rfl, _⟩ := h; rfl
  · obtain ⟨cell, rfl, k⟩ := h
    refine ⟨_, w_cons (w_set (i := 1) sc_piece_by.nd rfl (Or.inl rfl) pe_lst6)
      (w_cons (w_set (i := 2) sc_piece_by.nd rfl (Or.inl rfl) pe_lst12)
      (w_of (pss_cons (ps_if (pt_cmpR op_gt (pe_op op_mod (pv 0) pe_int) pe_int (nomark _)) (pss_one (ps_ret (pe_tup (pa_cons (pe_ix ix_list (pv 1) (pe_op op_mod (pe_op op_fdiv (pv 0) pe_int) pe_int) (fun _ _ => rfl)) (pa_cons pe_bl pa_nil))))) pss_nil)
      (pss_one (ps_ret (pe_tup (pa_cons (pe_ix ix_list (pv 2) (pe_op op_mod (pe_op op_fdiv (pv 0) pe_int) pe_int) (fun _ _ => rfl)) (pa_cons pe_bl pa_nil)))))))), ?_⟩
    refine ⟨by show 6 ≤ sizeLine; decide, fun l1 hl1 => ?_⟩
    have s1 := (Same.refl H).upd hl1 (o := HO.lst [.str "0", .str "7", .str "-3", .str "10", .str "no", .str "100000000000000000000"])
    have a1 : (upd H l1 (HO.lst [.str "0", .str "7", .str "-3", .str "10", .str "no", .str "100000000000000000000"])) l1 = some (HO.lst [.str "0", .str "7", .str "-3", .str "10", .str "no", .str "100000000000000000000"]) := upd_same
    show _
    generalize upd H l1 (HO.lst [.str "0", .str "7", .str "-3", .str "10", .str "no", .str "100000000000000000000"]) = H1 at s1 a1
    refine ⟨by show 12 ≤ sizeLine; decide, fun l2 hl2 => ?_⟩
    have s2 := s1.upd hl2 (o := HO.lst [.str "-0", .str "07", .str "+3", .str "No", .str "", .str " 4", .str "1_0", .str "4 ", .str "\t4", .str "3.0", .str "--3", .str "-"])
    have a2 : (upd H1 l2 (HO.lst [.str "-0", .str "07", .str "+3", .str "No", .str "", .str " 4", .str "1_0", .str "4 ", .str "\t4", .str "3.0", .str "--3", .str "-"])) l2 = some (HO.lst [.str "-0", .str "07", .str "+3", .str "No", .str "", .str " 4", .str "1_0", .str "4 ", .str "\t4", .str "3.0", .str "--3", .str "-"]) := upd_same
    have a1' := ((Same.refl H1).upd hl2 (o := HO.lst [.str "-0", .str "07", .str "+3", .str "No", .str "", .str " 4", .str "1_0", .str "4 ", .str "\t4", .str "3.0", .str "--3", .str "-"])) _ _ a1
    generalize upd H1 l2 (HO.lst [.str "-0", .str "07", .str "+3", .str "No", .str "", .str " 4", .str "1_0", .str "4 ", .str "\t4", .str "3.0", .str "--3", .str "-"]) = H2 at s2 a2 a1'
    refine ⟨_, rfl, _, _, rfl, rfl, (show (0 : Int) < 4 by decide), _, _, rfl, rfl, _, rfl, ?_⟩
    refine ite2 (fun _ => ?_) (fun _ => ?_)
    · obtain ⟨p, hp, hok⟩ : ∃ p, atI [V.str "0", .str "7", .str "-3", .str "10", .str "no", .str "100000000000000000000"] (cell / 4 % 6) = some (.str p) ∧ PieceOk p true := by
        have hcs : cell / 4 % 6 = 0 ∨ cell / 4 % 6 = 1 ∨ cell / 4 % 6 = 2 ∨ cell / 4 % 6 = 3 ∨ cell / 4 % 6 = 4 ∨ cell / 4 % 6 = 5 := by omega
        rcases hcs with e | e | e | e | e | e <;> (rw [e]; exact ⟨_, rfl, pieceOk_of (by decide +kernel)⟩)
      refine ⟨_, rfl, _, rfl, _, _, rfl, rfl, ⟨by decide, by decide⟩, _, _, rfl, rfl, (show (0 : Int) < 6 by decide), l1, _, _, .str p, rfl, rfl, SqL.of a1', hp, by show 2 ≤ sizeLine; decide, fun tp htp => ?_⟩
      exact k tp p true _ hok (s2.upd htp) upd_same
    · obtain ⟨p, hp, hok⟩ : ∃ p, atI [V.str "-0", .str "07", .str "+3", .str "No", .str "", .str " 4", .str "1_0", .str "4 ", .str "\t4", .str "3.0", .str "--3", .str "-"] (cell / 4 % 12) = some (.str p) ∧ PieceOk p false := by
        have h0 := Int.emod_nonneg (cell / 4) (b := 12) (by decide)
        have h1 := Int.emod_lt_of_pos (cell / 4) (b := 12) (by decide)
        generalize cell / 4 % 12 = r at h0 h1
        obtain ⟨n, rfl⟩ := Int.eq_ofNat_of_zero_le h0
        exact bad_at n (by omega)
      refine ⟨_, rfl, _, rfl, _, _, rfl, rfl, ⟨by decide, by decide⟩, _, _, rfl, rfl, (show (0 : Int) < 12 by decide), l2, _, _, .str p, rfl, rfl, SqL.of a2, hp, by show 2 ≤ sizeLine; decide, fun tp htp => ?_⟩
      exact k tp p false _ hok (s2.upd htp) upd_same
end

end Hf

namespace Hf
open PySem PySem.Spec PyProof.Rows L2
section
variable {P : Program} {w : World} {K : PySem.W.Frag} {mg : Str → Option Value} {base : Heap}
def sp_meant : Sp := fun vs H Q _ => ∃ (p : Str) (c : Option Int), vs = [.str p] ∧ costOf (sg p) = some c ∧ p.length ≤ 640 ∧ Q (cellV c) H
theorem ok_meant (B : Blt mg) (D : DefIs K mg "_law_meant" s_meant ["_law_piece"]) : Has P w K mg base 1 "_law_meant" ["_law_piece"] sp_meant := by
  refine D.has sc_meant (fun vs H Q E h => ?_) fun f cdv A outer s H vs Q E hr h => ?_
  · obtain ⟨p, c, rfl, _⟩ := h; rfl
  · obtain ⟨x, c, rfl, hc, hz, k⟩ := h
    refine ⟨_, pss_cons (ps_if (pt_cmpR op_eq (pv 0) pe_str (nomark _)) (pss_one (ps_ret pe_non)) pss_nil) (pss_one (ps_ret (pe_callTy call_int_text (by rfl) B.int boot_int (pa_cons (pv 0) pa_nil)))), ?_⟩
    refine ⟨_, rfl, rfl, _, rfl, ?_⟩
    rw [str_eq]
    have e0 : sg ("no" : Str) = [110, 111] := by decide +kernel
    unfold costOf at hc
    refine ite2 (fun h => ?_) (fun h => ?_)
    · have h1 : sg x = [110, 111] := e0 ▸ of_decide_eq_true h
      rw [if_pos h1] at hc
      cases hc
      exact k
    · have h1 : ¬ sg x = [110, 111] := fun z => h (decide_eq_true (z.trans e0.symm))
      rw [if_neg h1] at hc
      have h2 : isNumL (sg x) = true := by
        cases hn : isNumL (sg x) with
        | true => rfl
        | false => rw [hn] at hc; cases hc
      rw [if_pos h2] at hc
      cases hc
      exact ⟨_, rfl, x, _, rfl, num_text h2 hz, hz, k⟩
end

end Hf

namespace Hf
open PySem PySem.Spec PyProof.Rows L2
section
variable {P : Program} {w : World} {K : PySem.W.Frag} {mg : Str → Option Value} {base : Heap}
def sp_line_of (K : PySem.W.Frag) : Sp := fun vs H Q _ => ∃ (a : Addr) (cells : List Int) (count : Int) (head : Str), vs = [.ref a, .int count, .str head] ∧ IntsAt K H a cells ∧ cells.length = 4 ∧ 0 ≤ count ∧ count ≤ 4 ∧
  ∀ tp rl line row clean H', LineOf head count line row clean → Same H H' → H' tp = some (.tup [.str line, .ref rl, .bl clean]) → H' rl = some (.lst (row.map cellV)) → H rl = none → Q (.ref tp) H'
theorem ok_line_of (B : Blt mg) (Gp : Has P w K mg base 1 "_law_piece_by" ["_law_cell"] sp_piece_by) (Gm : Has P w K mg base 1 "_law_meant" ["_law_piece"] sp_meant) (D : DefIs K mg "_law_line_of" s_line_of ["_law_cells", "_law_count", "_law_head"]) :
    Has P w K mg base 2 "_law_line_of" ["_law_cells", "_law_count", "_law_head"] (sp_line_of K) := by
  refine D.has sc_line_of (fun vs H Q E h => ?_) fun f cdv A outer s H vs Q E hr h => ?_
  · obtain ⟨a, cells, count, head, rfl, _⟩ := h; rfl
  · obtain ⟨a, cells, count, head, rfl, ha, hc4, hc0, hc1, k⟩ := h
    refine ⟨_, pss_cons (ps_set (i := 3) sc_line_of.nd rfl (Or.inl rfl) (pe_lst pa_nil))
      (pss_cons (ps_set (i := 4) sc_line_of.nd rfl (Or.inl rfl) (pe_lst pa_nil))
      (pss_cons (ps_set (i := 5) sc_line_of.nd rfl (Or.inl rfl) pe_bl)
      (pss_cons (ps_for PassesOwn.never rfl (pi_list (pe_slice sl_list (pv 0) po_none (po_some (pv 1)))) (pg_name (i := 6) sc_line_of.nd rfl (Or.inl rfl)) (pss_cons (ps_asg (pe_fn Gp hr (by rfl) (pa_cons (pv 6) pa_nil)) (pg_tup rfl (pgs_cons (pg_name (i := 7) sc_line_of.nd rfl (Or.inl rfl)) (pgs_cons (pg_name (i := 8) sc_line_of.nd rfl (Or.inl rfl)) pgs_nil))))
        (pss_cons (ps_expr (pe_bm PySem.F.plainAttrs_list PySem.F.slot_list_append PySem.F.type_list_append mt_append (pv 3) (pa_cons (pv 7) pa_nil)))
        (pss_cons (ps_set (i := 5) sc_line_of.nd rfl (Or.inl rfl) (pe_and (pv 5) (pe_one (pv 8))))
        (pss_one (ps_if (pt_val (pv 8)) (pss_one (ps_expr (pe_bm PySem.F.plainAttrs_list PySem.F.slot_list_append PySem.F.type_list_append mt_append (pv 4) (pa_cons (pe_fn Gm hr (by rfl) (pa_cons (pv 7) pa_nil)) pa_nil)))) pss_nil))))))
      (pss_cons (ps_if ((pw_and (pt_cmpR op_eq (pv 2) pe_str (nomark _)) (pw_and1 (pt_cmpR (op_eq_one hr.units0) (pv 3) (pe_lst (pa_cons pe_str pa_nil)) (nomark _))))).pt (pss_one (ps_set (i := 5) sc_line_of.nd rfl (Or.inl rfl) pe_bl)) pss_nil)
      (pss_one (ps_ret (pe_tup (pa_cons (pe_bm PySem.F.plainAttrs_str PySem.F.slot_str_join PySem.F.type_str_join mt_join pe_str (pa_cons (pv 3) pa_nil)) (pa_cons (pv 4) (pa_cons (pv 5) pa_nil)))))))))), ?_⟩
    refine ⟨by decide, fun tx htx => ⟨by decide, fun rw_ hrw => ?_⟩⟩
    have hne : tx ≠ rw_ := fun e => by rw [← e, upd_same] at hrw; cases hrw
    have hrwn : H rw_ = none := by rw [upd_ne (Ne.symm hne)] at hrw; exact hrw
    have s1 : Same H (upd (upd H tx (.lst [])) rw_ (.lst [])) := ((Same.refl H).upd htx).upd hrw
    have a1 : (upd (upd H tx (.lst [])) rw_ (.lst [])) tx = some (.lst []) := (upd_ne hne).trans upd_same
    have b1 : (upd (upd H tx (.lst [])) rw_ (.lst [])) rw_ = some (.lst []) := upd_same
    generalize upd (upd H tx (.lst [])) rw_ (.lst []) = H1 at s1 a1 b1
    refine ⟨_, rfl, _, rfl, _, rfl, a, _, rfl, s1.seq ha, fun q hq => ?_⟩
    obtain ⟨cn, rfl⟩ := Int.eq_ofNat_of_zero_le hc0
    have ec : cutV (cells.map V.int) none (some (cn : Int)) = (cells.take cn).map V.int := cut_to cells cn
    show _
    rw [ec]
    have hqx : q ≠ tx := fun e => by rw [e, a1] at hq; cases hq
    have hqr : q ≠ rw_ := fun e => by rw [e, b1] at hq; cases hq
    have s2 : Same H (upd H1 q (.lst ((cells.take cn).map V.int))) := s1.upd hq
    have q2 : (upd H1 q (.lst ((cells.take cn).map V.int))) q = some (.lst ((cells.take cn).map V.int)) := upd_same
    have a2 : (upd H1 q (.lst ((cells.take cn).map V.int))) tx = some (.lst []) := (upd_ne (Ne.symm hqx)).trans a1
    have b2 : (upd H1 q (.lst ((cells.take cn).map V.int))) rw_ = some (.lst []) := (upd_ne (Ne.symm hqr)).trans b1
    have hqn : H q = none := s1.free hq
    generalize upd H1 q (.lst ((cells.take cn).map V.int)) = H2 at s2 q2 a2 b2
    refine ⟨q, rfl, ⟨_, SqL.of q2⟩, ?_⟩
    have hlt : (cells.take cn).length = cn := by rw [List.length_take]; omega
    refine for_list (K := K) (a := q) (xs := (cells.take cn).map V.int) (fun i σ H3 => ∃ (v6 v7 v8 : Option V) (ts : List Str), σ = [some (.ref a), some (.int (cn : Int)), some (.str head), some (.ref tx), some (.ref rw_), some (.bl (ts.all fun p => (costOf (sg p)).isSome)), v6, v7, v8] ∧
        ts.length = i ∧ (∀ p ∈ ts, ∃ b, PieceOk p b) ∧ Same H H3 ∧ H3 q = some (.lst ((cells.take cn).map V.int)) ∧ H3 tx = some (.lst (ts.map V.str)) ∧ H3 rw_ = some (.lst ((ts.filterMap fun p => costOf (sg p)).map cellV)))
      ⟨none, none, none, [], rfl, rfl, fun p hp => (nomatch hp), s2, q2, a2, b2⟩ (fun i σ H3 _ ⟨_, _, _, _, _, _, _, _, z, _⟩ => SqL.of z) ?_ ?_
    · rintro i y σ H3 hi ⟨v6, v7, v8, ts, rfl, hl, hps, s3, q3, a3, b3⟩
      obtain ⟨cell, hcell, rfl⟩ := get_int hi
      have hi4 := (List.getElem?_eq_some_iff.mp hcell).1
      refine ⟨_, rfl, cell, rfl, fun tp p b H4 hok s4 htp => ?_⟩
      refine ⟨tp, _, rfl, SqT.of htp, rfl, _, _, rfl, _, _, rfl, rfl, ?_⟩
      have a4 := s4 _ _ a3
      have b4 := s4 _ _ b3
      have q4 := s4 _ _ q3
      refine ⟨_, rfl, .inl ⟨rfl, _, SqL.of a4⟩, _, rfl, tx, _, _, rfl, rfl, a4, ?_, ?_⟩
      · exact Nat.lt_of_le_of_lt (show _ ≤ 10 by rw [List.length_map]; omega) (by decide)
      have s5 : Same H (upd H4 tx (.lst (ts.map V.str ++ [V.str p]))) := (s3.trans s4).put htx
      have a5 : (upd H4 tx (.lst (ts.map V.str ++ [V.str p]))) tx = some (.lst ((ts ++ [p]).map V.str)) := by rw [upd_same, List.map_append]; rfl
      have b5 : (upd H4 tx (.lst (ts.map V.str ++ [V.str p]))) rw_ = _ := (upd_ne (Ne.symm hne)).trans b4
      have q5 : (upd H4 tx (.lst (ts.map V.str ++ [V.str p]))) q = _ := (upd_ne hqx).trans q4
      generalize upd H4 tx (.lst (ts.map V.str ++ [V.str p])) = H5 at s5 a5 b5 q5
      have hps' : ∀ p' ∈ ts ++ [p], ∃ b, PieceOk p' b := fun p' hp' => by
        rcases List.mem_append.mp hp' with z | z
        · exact hps p' z
        · rw [List.mem_singleton.mp z]; exact ⟨b, hok⟩
      have eall : (ts ++ [p]).all (fun p => (costOf (sg p)).isSome) = (ts.all (fun p => (costOf (sg p)).isSome) && b) := by
        rw [List.all_append, List.all_cons, hok.is, List.all_nil, Bool.and_true]
      cases b with
      | true =>
        obtain ⟨c, hc⟩ := Option.isSome_iff_exists.mp hok.is
        have efm : (ts ++ [p]).filterMap (fun p => costOf (sg p)) = ts.filterMap (fun p => costOf (sg p)) ++ [c] := by
          rw [List.filterMap_append, List.filterMap_cons, hc]; rfl
        rw [Bool.and_true] at eall
        have fin : ∀ v : Bool, v = ts.all (fun p => (costOf (sg p)).isSome) → ∀ H6, H6 = upd H5 rw_ (.lst ((ts.filterMap fun p => costOf (sg p)).map cellV ++ [cellV c])) →
            ∃ (v6 v7 v8 : Option V) (us : List Str), [some (.ref a), some (.int (cn : Int)), some (.str head), some (.ref tx), some (.ref rw_), some (.bl v), some (.int cell), some (.str p), some (.bl true)] = [some (.ref a), some (.int (cn : Int)), some (.str head), some (.ref tx), some (.ref rw_), some (.bl (us.all fun p => (costOf (sg p)).isSome)), v6, v7, v8] ∧
              us.length = i + 1 ∧ (∀ p ∈ us, ∃ b, PieceOk p b) ∧ Same H H6 ∧ H6 q = some (.lst ((cells.take cn).map V.int)) ∧ H6 tx = some (.lst (us.map V.str)) ∧ H6 rw_ = some (.lst ((us.filterMap fun p => costOf (sg p)).map cellV)) := by
          rintro v rfl H6 rfl
          refine ⟨_, _, _, ts ++ [p], by rw [eall], by rw [List.length_append, hl]; rfl, hps', s5.put hrwn, (upd_ne hqr).trans q5, (upd_ne hne).trans a5, ?_⟩
          rw [upd_same, efm, List.map_append]; rfl
        cases hcl : ts.all (fun p => (costOf (sg p)).isSome) with
        | true =>
          refine ⟨_, rfl, true, rfl, iteT ⟨_, rfl, ?_⟩⟩
          refine ⟨_, rfl, true, rfl, iteT ?_⟩
          refine ⟨_, rfl, .inl ⟨rfl, _, SqL.of b5⟩, _, rfl, p, c, rfl, hc, by have := hok.len; omega, rw_, _, _, rfl, rfl, b5, ?_, fin true hcl.symm _ rfl⟩
          exact Nat.lt_of_le_of_lt (show _ ≤ 10 by rw [List.length_map]; exact Nat.le_trans (List.length_filterMap_le _ _) (by omega)) (by decide)
        | false =>
          refine ⟨_, rfl, false, rfl, iteF ?_⟩
          refine ⟨_, rfl, true, rfl, iteT ?_⟩
          refine ⟨_, rfl, .inl ⟨rfl, _, SqL.of b5⟩, _, rfl, p, c, rfl, hc, by have := hok.len; omega, rw_, _, _, rfl, rfl, b5, ?_, fin false hcl.symm _ rfl⟩
          exact Nat.lt_of_le_of_lt (show _ ≤ 10 by rw [List.length_map]; exact Nat.le_trans (List.length_filterMap_le _ _) (by omega)) (by decide)
      | false =>
        have hcn : costOf (sg p) = none := by
          cases hc : costOf (sg p) with
          | none => rfl
          | some c => have := hok.is; rw [hc] at this; cases this
        have efm : (ts ++ [p]).filterMap (fun p => costOf (sg p)) = ts.filterMap (fun p => costOf (sg p)) := by
          rw [List.filterMap_append, List.filterMap_cons, hcn, List.filterMap_nil, List.append_nil]
        rw [Bool.and_false] at eall
        cases hcl : ts.all (fun p => (costOf (sg p)).isSome) with
        | true =>
          refine ⟨_, rfl, true, rfl, iteT ⟨_, rfl, ?_⟩⟩
          refine ⟨_, rfl, false, rfl, iteF ?_⟩
          exact ⟨_, _, _, ts ++ [p], by rw [eall]; rfl, by rw [List.length_append, hl]; rfl, hps', s5, q5, a5, by rw [efm]; exact b5⟩
        | false =>
          refine ⟨_, rfl, false, rfl, iteF ?_⟩
          refine ⟨_, rfl, false, rfl, iteF ?_⟩
          exact ⟨_, _, _, ts ++ [p], by rw [eall]; rfl, by rw [List.length_append, hl]; rfl, hps', s5, q5, a5, by rw [efm]; exact b5⟩
    · rintro σ H3 ⟨v6, v7, v8, ts, rfl, hl, hps, s3, q3, a3, b3⟩
      rw [List.length_map, hlt] at hl
      have hjo : JoinOk "," ts = true := by
        have h := StrLaws.joinFits (sep := ",") (texts := ts) (B := 30) (fun y hy => by obtain ⟨b, q⟩ := hps y hy; exact q.len) (by
          have e : (("," : Str)).length = 1 := rfl
          rw [e]
          omega)
        unfold JoinOk
        rw [h]; rfl
      have fin : ∀ (v : Bool) H4, v = (ts.all (fun p => (costOf (sg p)).isSome) || (decide (head = "0") && decide (ts = [("" : Str)]))) → Same H H4 → H4 tx = some (.lst (ts.map V.str)) → H4 rw_ = some (.lst ((ts.filterMap fun p => costOf (sg p)).map cellV)) → ∀ tp, H4 tp = none → Q (.ref tp) (upd H4 tp (.tup [.str (Txt.join "," ts), .ref rw_, .bl v])) := by
        intro v H4 hv s4 a4 b4 tp htp
        refine k tp rw_ (Txt.join "," ts) (ts.filterMap fun p => costOf (sg p)) v _ ⟨ts, by omega, hps, rfl, rfl, hv⟩ (s4.upd htp) upd_same ?_ hrwn
        have : rw_ ≠ tp := fun e => by rw [← e, b4] at htp; cases htp
        rw [upd_ne this]; exact b4
      refine ⟨_, rfl, rfl, _, rfl, ?_⟩
      refine ite2 (fun h => ?_) (fun h => ?_)
      · have h0 : head = "0" := V.str.inj (of_decide_eq_true h)
        refine ⟨_, rfl, by show 1 ≤ sizeLine; decide, fun z hz => ?_⟩
        have hzx : z ≠ tx := fun e => by rw [e, a3] at hz; cases hz
        have hzr : z ≠ rw_ := fun e => by rw [e, b3] at hz; cases hz
        refine ⟨tx, z, ts, _, rfl, rfl, SqL.of ((upd_ne (Ne.symm hzx)).trans a3), SqL.of upd_same, _, rfl, ?_⟩
        have s4 := s3.upd hz (o := HO.lst [V.str ""])
        refine ite2 (fun h1 => ?_) (fun h1 => ?_)
        · have h2 : ts = [("" : Str)] := of_decide_eq_true h1
          refine ⟨rfl, _, rfl, _, tx, ts, rfl, rfl, SqL.of ((upd_ne (Ne.symm hzx)).trans a3), hjo, _, rfl, _, rfl, by show 3 ≤ sizeLine; decide, fun tp htp => ?_⟩
          exact fin true _ (by rw [decide_eq_true h0, decide_eq_true h2]; simp) s4 ((upd_ne (Ne.symm hzx)).trans a3) ((upd_ne (Ne.symm hzr)).trans b3) tp htp
        · have h2 : ¬ ts = [("" : Str)] := fun z => h1 (decide_eq_true z)
          refine ⟨rfl, _, rfl, _, tx, ts, rfl, rfl, SqL.of ((upd_ne (Ne.symm hzx)).trans a3), hjo, _, rfl, _, rfl, by show 3 ≤ sizeLine; decide, fun tp htp => ?_⟩
          exact fin _ _ (by rw [decide_eq_false h2]; simp) s4 ((upd_ne (Ne.symm hzx)).trans a3) ((upd_ne (Ne.symm hzr)).trans b3) tp htp
      · have h0 : ¬ head = "0" := fun z => h (decide_eq_true (congrArg V.str z))
        refine iteF ?_
        refine ⟨rfl, _, rfl, _, tx, ts, rfl, rfl, SqL.of a3, hjo, _, rfl, _, rfl, by show 3 ≤ sizeLine; decide, fun tp htp => ?_⟩
        exact fin _ _ (by rw [decide_eq_false h0]; simp) s3 a3 b3 tp htp
end

end Hf

namespace Hf
open PySem PySem.Spec PyProof.Rows L2
section
variable {P : Program} {w : World} {K : PySem.W.Frag} {mg : Str → Option Value} {base : Heap}
/-- the same lines -/
def sp_like : Sp := fun vs H Q _ => ∃ (a b : Addr) (ts : List Str), vs = [.ref a, .ref b] ∧ H a = some (.lst (ts.map V.str)) ∧ H b = some (.lst (ts.map V.str)) ∧ ts.length ≤ 100 ∧ ∀ H', Same H H' → Q (.bl true) H'
theorem ok_like (B : Blt mg) (D : DefIs K mg "_law_like" s_like ["_law_found", "_law_due"]) : Has P w K mg base 1 "_law_like" ["_law_found", "_law_due"] sp_like := by
  refine D.has sc_like (fun vs H Q E h => ?_) fun f cdv A outer s H vs Q E hr h => ?_
  · obtain ⟨a, b, ts, rfl, _⟩ := h; rfl
  · obtain ⟨a, b, ts, rfl, ha, hb, htl, k⟩ := h
    refine ⟨_, pss_cons (ps_set (i := 2) sc_like.nd rfl (Or.inl rfl) (pe_lst (pa_cons (pv 0) pa_nil)))
      (pss_cons (ps_set (i := 3) sc_like.nd rfl (Or.inl rfl) (pe_lst (pa_cons (pv 1) pa_nil)))
      (pss_cons (ps_while PassesOwn.never (pt_cmpR (op_ne_nil hr.units0) (pv 3) (pe_lst pa_nil) (nomark _)) (pss_cons (ps_set (i := 4) sc_like.nd rfl (Or.inl rfl) (pe_bm0 PySem.F.plainAttrs_list PySem.F.slot_list_pop PySem.F.type_list_pop mt_pop (pv 2)))
      (pss_cons (ps_set (i := 5) sc_like.nd rfl (Or.inl rfl) (pe_bm0 PySem.F.plainAttrs_list PySem.F.slot_list_pop PySem.F.type_list_pop mt_pop (pv 3)))
      (pss_one (ps_if (pt_val (pe_callB call_isi (by rfl) B.isinstance boot_isinstance (pa_cons (pv 5) (pa_cons (pe_ty (by rfl) B.list boot_list) pa_nil)))) (pss_cons (ps_if ((pw_or (pt_not (pt_val (pe_callB call_isi (by rfl) B.isinstance boot_isinstance (pa_cons (pv 4) (pa_cons (pe_ty (by rfl) B.list boot_list) pa_nil))))) (pw_or1 (pt_cmpR op_ne (pe_callB call_len_seq (by rfl) B.len boot_len (pa_cons (pv 4) pa_nil)) (pe_callB call_len_seq (by rfl) B.len boot_len (pa_cons (pv 5) pa_nil)) (nomark _))))).pt (pss_one (ps_ret pe_bl)) pss_nil)
      (pss_cons (ps_expr (pe_bm PySem.F.plainAttrs_list PySem.F.slot_list_extend PySem.F.type_list_extend mt_extend (pv 2) (pa_cons (pv 4) pa_nil)))
      (pss_one (ps_expr (pe_bm PySem.F.plainAttrs_list PySem.F.slot_list_extend PySem.F.type_list_extend mt_extend (pv 3) (pa_cons (pv 5) pa_nil)))))) (pss_one (ps_if (pt_val (pe_callB call_isi (by rfl) B.isinstance boot_isinstance (pa_cons (pv 5) (pa_cons (pe_ty (by rfl) B.tuple boot_tuple10) pa_nil)))) (pss_cons (ps_if ((pw_or (pt_not (pt_val (pe_callB call_isi (by rfl) B.isinstance boot_isinstance (pa_cons (pv 4) (pa_cons (pe_ty (by rfl) B.tuple boot_tuple10) pa_nil))))) (pw_or1 (pt_cmpR op_ne (pe_callB call_len_seq (by rfl) B.len boot_len (pa_cons (pv 4) pa_nil)) (pe_callB call_len_seq (by rfl) B.len boot_len (pa_cons (pv 5) pa_nil)) (nomark _))))).pt (pss_one (ps_ret pe_bl)) pss_nil)
      (pss_cons (ps_expr (pe_bm PySem.F.plainAttrs_list PySem.F.slot_list_extend PySem.F.type_list_extend mt_extend (pv 2) (pa_cons (pe_callTy call_list_of (by rfl) B.list boot_list (pa_cons (pv 4) pa_nil)) pa_nil)))
      (pss_one (ps_expr (pe_bm PySem.F.plainAttrs_list PySem.F.slot_list_extend PySem.F.type_list_extend mt_extend (pv 3) (pa_cons (pe_callTy call_list_of (by rfl) B.list boot_list (pa_cons (pv 5) pa_nil)) pa_nil)))))) (pss_one (ps_if (pt_val (pe_callB call_isi (by rfl) B.isinstance boot_isinstance (pa_cons (pv 5) (pa_cons (pe_ty (by rfl) B.str boot_str10) pa_nil)))) (pss_one (ps_if ((pw_or (pt_not (pt_val (pe_callB call_isi (by rfl) B.isinstance boot_isinstance (pa_cons (pv 4) (pa_cons (pe_ty (by rfl) B.str boot_str10) pa_nil))))) (pw_or1 (pt_cmpR op_ne (pv 4) (pv 5) (nomark _))))).pt (pss_one (ps_ret pe_bl)) pss_nil)) (pss_one (ps_if (pt_cmpR op_isN (pv 5) pe_non (nomark _)) (pss_one (ps_if (pt_cmpR op_notN (pv 4) pe_non (nomark _)) (pss_one (ps_ret pe_bl)) pss_nil)) (pss_one (ps_if ((pw_or (pt_not (pt_val (pe_callB call_isi (by rfl) B.isinstance boot_isinstance (pa_cons (pv 4) (pa_cons (pe_ty (by rfl) B.int boot_int) pa_nil))))) (pw_or1 (pt_cmpR op_ne (pe_callB call_isi (by rfl) B.isinstance boot_isinstance (pa_cons (pv 4) (pa_cons (pe_ty (by rfl) B.bool boot_bool) pa_nil))) (pe_callB call_isi (by rfl) B.isinstance boot_isinstance (pa_cons (pv 5) (pa_cons (pe_ty (by rfl) B.bool boot_bool) pa_nil))) (nomark _))))).pt (pss_one (ps_ret pe_bl)) (pss_one (ps_if (pt_cmpR op_ne (pv 4) (pv 5) (nomark _)) (pss_one (ps_ret pe_bl)) pss_nil)))))))))))))))
      (pss_one (ps_ret pe_bl)))), ?_⟩
    refine ⟨_, rfl, by show 1 ≤ sizeLine; decide, fun g hg => ?_⟩
    refine ⟨_, rfl, by show 1 ≤ sizeLine; decide, fun d hd => ?_⟩
    have hgd : g ≠ d := fun e => by rw [← e, upd_same] at hd; cases hd
    have hdn : H d = none := by rw [upd_ne (Ne.symm hgd)] at hd; exact hd
    have s1 : Same H (upd (upd H g (.lst [.ref a])) d (.lst [.ref b])) := ((Same.refl H).upd hg).upd hd
    have g1 : (upd (upd H g (.lst [.ref a])) d (.lst [.ref b])) g = some (.lst [.ref a]) := (upd_ne hgd).trans upd_same
    have d1 : (upd (upd H g (.lst [.ref a])) d (.lst [.ref b])) d = some (.lst [.ref b]) := upd_same
    generalize upd (upd H g (.lst [.ref a])) d (.lst [.ref b]) = H1 at s1 g1 d1
    refine ⟨fun m σ H2 => ∃ (v4 v5 : Option V) (xs ys : List V), σ = [some (.ref a), some (.ref b), some (.ref g), some (.ref d), v4, v5] ∧ Same H H2 ∧ H2 g = some (.lst xs) ∧ H2 d = some (.lst ys) ∧
      ((m = ts.length + 1 ∧ xs = [.ref a] ∧ ys = [.ref b]) ∨ ∃ us : List Str, m = us.length ∧ us.length ≤ 100 ∧ xs = us.map V.str ∧ ys = us.map V.str), ⟨ts.length + 1, none, none, _, _, rfl, s1, g1, d1, .inl ⟨rfl, rfl, rfl⟩⟩, ?_⟩
    rintro m σ H2 ⟨v4, v5, xs, ys, rfl, s2, g2, d2, hc⟩
    refine ⟨_, rfl, by decide, fun z hz => ?_⟩
    have hzg : z ≠ g := fun e => by rw [e, g2] at hz; cases hz
    have hzd : z ≠ d := fun e => by rw [e, d2] at hz; cases hz
    have s3 := s2.upd hz (o := HO.lst [])
    have g3 : (upd H2 z (.lst [])) g = _ := (upd_ne (Ne.symm hzg)).trans g2
    have d3 : (upd H2 z (.lst [])) d = _ := (upd_ne (Ne.symm hzd)).trans d2
    have z3 : (upd H2 z (.lst [])) z = some (.lst []) := upd_same
    generalize upd H2 z (.lst []) = H3 at s3 g3 d3 z3
    refine ⟨d, z, ys, rfl, rfl, SqL.of d3, SqL.of z3, _, rfl, ?_⟩
    have pops : ∀ xs' ys' : List V, ∃ H5, H5 = upd (upd H3 g (.lst xs')) d (.lst ys') ∧ Same H H5 ∧ H5 g = some (.lst xs') ∧ H5 d = some (.lst ys') := fun xs' ys' =>
      ⟨_, rfl, (s3.put hg).put hdn, (upd_ne hgd).trans upd_same, upd_same⟩
    rcases hc with ⟨rfl, rfl, rfl⟩ | ⟨us, rfl, hul, rfl, rfl⟩
    · refine iteT ⟨fun σ' H' => ∃ m', m' < ts.length + 1 ∧ ∃ (v4 v5 : Option V) (xs ys : List V), σ' = [some (.ref a), some (.ref b), some (.ref g), some (.ref d), v4, v5] ∧ Same H H' ∧ H' g = some (.lst xs) ∧ H' d = some (.lst ys) ∧
        ((m' = ts.length + 1 ∧ xs = [.ref a] ∧ ys = [.ref b]) ∨ ∃ us : List Str, m' = us.length ∧ us.length ≤ 100 ∧ xs = us.map V.str ∧ ys = us.map V.str), fun σ' H' h => h, ?_⟩
      obtain ⟨H5, e5, s5, g5, d5⟩ := pops [] []
      refine ⟨_, rfl, .inl ⟨rfl, _, SqL.of g3⟩, g, _, .ref a, rfl, rfl, g3, rfl, ?_⟩
      refine ⟨_, rfl, .inl ⟨rfl, _, SqL.of ((upd_ne (Ne.symm hgd)).trans d3)⟩, d, _, .ref b, rfl, rfl, (upd_ne (Ne.symm hgd)).trans d3, rfl, ?_⟩
      show _
      have e6 : upd (upd H3 g (.lst ([V.ref a] : List V).dropLast)) d (.lst ([V.ref b] : List V).dropLast) = H5 := e5.symm
      rw [e6]
      have ha5 := s5 _ _ ha
      have hb5 := s5 _ _ hb
      refine ⟨_, rfl, _, _, _, true, rfl, .lst hb5, by rfl, _, rfl, iteT ?_⟩
      refine ⟨_, rfl, _, _, _, true, rfl, .lst ha5, by rfl, _, rfl, iteF ?_⟩
      refine ⟨_, rfl, a, _, rfl, .inl (SqL.of ha5), _, rfl, b, _, rfl, .inl (SqL.of hb5), rfl, _, rfl, ?_⟩
      refine ite2 (fun h => absurd h (by simp)) (fun _ => ?_)
      have hga : a ≠ g := fun e => by rw [e, hg] at ha; cases ha
      have hgb : b ≠ g := fun e => by rw [e, hg] at hb; cases hb
      refine ⟨_, rfl, .inl ⟨rfl, _, SqL.of g5⟩, _, rfl, g, a, _, _, rfl, rfl, g5, ha5, ?_, ?_⟩
      · exact Nat.le_trans (show _ ≤ 1000 by rw [List.length_map]; simp only [List.length_nil]; omega) (by decide)
      refine ⟨_, rfl, .inl ⟨rfl, _, SqL.of ((upd_ne (Ne.symm hgd)).trans d5)⟩, _, rfl, d, b, _, _, rfl, rfl, (upd_ne (Ne.symm hgd)).trans d5, (upd_ne hgb).trans hb5, ?_, ?_⟩
      · exact Nat.le_trans (show _ ≤ 1000 by rw [List.length_map]; simp only [List.length_nil]; omega) (by decide)
      exact ⟨ts.length, Nat.lt_succ_self _, _, _, _, _, rfl, (s5.put hg).put hdn, (upd_ne hgd).trans upd_same, upd_same, .inr ⟨ts, rfl, htl, rfl, rfl⟩⟩
    · cases hus : us.reverse with
      | nil =>
        have hu0 : us = [] := List.reverse_eq_nil_iff.mp hus
        subst hu0
        exact iteF (k _ s3)
      | cons u r =>
        have hu1 : us = r.reverse ++ [u] := by
          have := congrArg List.reverse hus
          rw [List.reverse_reverse, List.reverse_cons] at this
          exact this
        generalize r.reverse = vs at hu1
        subst hu1
        have hem : ((vs ++ [u]).map V.str).isEmpty = false := by rw [List.map_append]; cases vs <;> rfl
        rw [hem]
        refine iteT ⟨fun σ' H' => ∃ m', m' < (vs ++ [u]).length ∧ ∃ (v4 v5 : Option V) (xs ys : List V), σ' = [some (.ref a), some (.ref b), some (.ref g), some (.ref d), v4, v5] ∧ Same H H' ∧ H' g = some (.lst xs) ∧ H' d = some (.lst ys) ∧
          ((m' = ts.length + 1 ∧ xs = [.ref a] ∧ ys = [.ref b]) ∨ ∃ us : List Str, m' = us.length ∧ us.length ≤ 100 ∧ xs = us.map V.str ∧ ys = us.map V.str), fun σ' H' h => h, ?_⟩
        have hlast : ((vs ++ [u]).map V.str)[((vs ++ [u]).map V.str).length - 1]? = some (V.str u) := by
          rw [List.map_append, List.length_append]
          show _[(vs.map V.str).length + 1 - 1]? = _
          rw [Nat.add_sub_cancel, List.getElem?_append_right (Nat.le_refl _), Nat.sub_self]; rfl
        have hdl : ((vs ++ [u]).map V.str).dropLast = vs.map V.str := by rw [List.map_append]; exact List.dropLast_concat
        obtain ⟨H5, e5, s5, g5, d5⟩ := pops (vs.map V.str) (vs.map V.str)
        refine ⟨_, rfl, .inl ⟨rfl, _, SqL.of g3⟩, g, _, .str u, rfl, rfl, g3, hlast, ?_⟩
        rw [hdl]
        refine ⟨_, rfl, .inl ⟨rfl, _, SqL.of ((upd_ne (Ne.symm hgd)).trans d3)⟩, d, _, .str u, rfl, rfl, (upd_ne (Ne.symm hgd)).trans d3, hlast, ?_⟩
        rw [hdl, ← e5]
        refine ⟨_, rfl, _, _, _, false, rfl, .str u, by rfl, _, rfl, iteF ?_⟩
        refine ⟨_, rfl, _, _, _, false, rfl, .str u, by rfl, _, rfl, iteF ?_⟩
        refine ⟨_, rfl, _, _, _, true, rfl, .str u, by rfl, _, rfl, iteT ?_⟩
        refine ⟨_, rfl, _, _, _, true, rfl, .str u, by rfl, _, rfl, iteF ?_⟩
        refine ⟨_, rfl, _, rfl, rfl, _, rfl, ?_⟩
        refine ite2 (fun h => absurd h (by simp)) (fun _ => ?_)
        rw [List.length_append, List.length_singleton] at hul
        exact ⟨vs.length, by rw [List.length_append, List.length_singleton]; exact Nat.lt_succ_self _, _, _, _, _, rfl, s5, g5, d5, .inr ⟨vs, rfl, by omega, rfl, rfl⟩⟩
end

end Hf

namespace Hf
open PySem PySem.Spec PyProof.Rows L2
theorem w_one {X : Cx} {st : Stmt} {t : TS} (h : PS X st t) : PSw X st t := ⟨h⟩
section
variable {P : Program} {w : World} {K : PySem.W.Frag} {mg : Str → Option Value} {base : Heap}
theorem funW {x qual : Str} {st : Stmt} {f : Addr} {fd : FuncData} {N ps : List Str} {k : Nat} {sp : Sp} (F : Fun K x qual st f fd) (S : FnScope N ps (defScope st)) (len : ∀ vs H Q E, sp vs H Q E → vs.length = ps.length)
    (hbody : ∀ (cdv : Value) (A : Around) (outer : List Env) (s : Shared) (H : Hp) (vs : List V) (Q : VK) (E : XK), Room k (A.deeper (envOfC qual (defScope st) s.heap.objs.size f cdv)) → sp vs H Q E →
      ∃ t, PSsw (cxOf CX0 P w K mg base N qual (defScope st) f cdv A outer s H E).nox (defBody st) t ∧ t { nx := fun _ H' => Q .non H', rt := Q } (start N vs) H) : FnOk P w K mg base CX0 (k + 1) f fd ps sp :=
  F.ok S len fun cdv A outer s H vs Q E hr h => by
    obtain ⟨t, ⟨h1⟩, h2⟩ := hbody cdv A outer s H vs Q E hr h
    exact ⟨t, h1, h2⟩
end
structure XF (K : PySem.W.Frag) (mg : Str → Option Value) (CF CP CD CH CN CK CT : Addr) : Prop where
  n : ExC K mg "NoNote" CN
  f : mg "FairError" = some (.ref CF)
  p : mg "NoPrices" = some (.ref CP)
  d : mg "NoDealing" = some (.ref CD)
  h : mg "NoHand" = some (.ref CH)
  k : mg "NoTask" = some (.ref CK)
  t : mg "NoTable" = some (.ref CT)
  exN : PySem.W.exmOne K (.ref CN) (.ref CF) = some true
  nn : PySem.W.kitOne K (.ref CN) (.ref CN) = some true
  vN : PySem.W.kitOne K (.ref CN) (.type "ValueError") = some true
  oN : PySem.W.kitAny K (.ref CN) [.ref CD, .ref CH, .ref CP, .ref CT, .ref CK] = some false
theorem vals_refs : ∀ {as : List Addr} {vs : List Value}, Vals (as.map V.ref) vs → vs = as.map Value.ref
  | [], _, .nil => rfl
  | a :: as, _, .cons r q => by
    cases r
    rw [vals_refs q]
    rfl
theorem boot_vErr11 : bootBuiltins "ValueError" = some (.type "ValueError") := by decide +kernel
section
variable {P : Program} {w : World} {K : PySem.W.Frag} {mg : Str → Option Value} {base : Heap} {CF CP CD CH CN CK CT : Addr}
def sp_any_refusal : Sp := fun vs H Q _ => ∃ (a : Addr) (ts : List Str), vs = [.ref a] ∧ H a = some (.lst (ts.map V.str)) ∧ ts.length ≤ 100 ∧ (∀ t ∈ ts, Txl t) ∧ okLines ts = false ∧ ∀ H', Same H H' → Q (.bl true) H'
theorem ok_any_refusal (B : Blt mg) (Y : XF K mg CF CP CD CH CN CK CT) (Gr : HasE P w K mg base 5 "read" ["lines"] (sp_readE CN)) (D : DefIs K mg "_law_any_refusal" s_any_refusal ["_law_handed"]) : Has P w K mg base 6 "_law_any_refusal" ["_law_handed"] sp_any_refusal := by
  refine D.has sc_any_refusal (fun vs H Q E h => ?_) fun f cdv A outer s H vs Q E hr h => ?_
  · obtain ⟨a, ts, rfl, _⟩ := h; rfl
  · obtain ⟨a, ts, rfl, ha, hz, hx, hbad, k⟩ := h
    refine ⟨_, pss_cons (ps_try (i := 1) (n := "e") Y.f (by rfl) sc_any_refusal.nd rfl rfl rfl rfl
      (fun pins E => pss_one (ps_expr (pe_fnE (E := E) Gr hr (by rfl) passT (pa_cons (pv 0) pa_nil))))
      (fun a C oe pn xe h1 h2 h3 h4 h5 => pss_one (ps_ret (pe_callB (call_isxH (K := K) rfl h1 h2 h3 h4 h5) (by rfl) B.isinstance boot_isinstance (pa_cons (pv 1) (pa_cons (pe_ty (by rfl) B.vErr boot_vErr11) pa_nil))))))
      (pss_one (ps_ret pe_bl)), ?_⟩
    refine ⟨_, rfl, a, ts, rfl, ha, hz, hx, fun hd rs e hok => ?_, fun _ H' sm => ?_⟩
    · rw [hbad] at hok; cases hok
    · refine ⟨CN, rfl, Y.exN, Y.n.xc, fun e he => ?_⟩
      exact ⟨_, rfl, .ty "ValueError", .type "ValueError", true, rfl, fun v z => z, Y.vN, k H' sm⟩
end
abbrev NL : List Str := ["_law_script", "_law_heads", "_law_head", "_law_fine", "_law_lines", "_law_rows", "_law_turn", "_law_count", "_law_cells", "_law_line", "_law_row", "_law_clean", "_law_handed", "_law_found", "_law_refused", "e"]
def forBody (s : Stmt) : List Stmt := match s with
  | .For _ _ b _ _ => b
  | _ => []
abbrev lawFor : List Stmt := forBody ((defBody s_law).getD 6 (.Pass ⟨0, 0, 0, 0⟩))
/-- a first line and whether it is one -/
structure HeadOk (head : Str) (n : Int) : Prop where
  tx : Txl head
  val : numVal (sg head) = n
  good : isCountL (sg head) = true → 0 ≤ n ∧ n ≤ 3 ∧ (head = "0" ↔ n = 0)
theorem okLines_snoc {head line : Str} {ls : List Str} {n : Int} (hn : numVal (sg head) = n) : okLines (head :: (ls ++ [line])) = (okLines (head :: ls) && okRow n line) := by
  show (isCountL (sg head) && (ls ++ [line]).all (okRow (numVal (sg head)))) = ((isCountL (sg head) && ls.all (okRow (numVal (sg head)))) && okRow n line)
  rw [hn, List.all_append, List.all_cons, List.all_nil, Bool.and_true, Bool.and_assoc]
theorem line_txl {head line : Str} {count : Int} {row : HRow} {clean : Bool} (L : LineOf head count line row clean) (hc : count ≤ 4) : Txl line ∧ row.length ≤ 4 := by
  obtain ⟨ts, hl, hp, rfl, rfl, _⟩ := L.ex
  have e : Txt.join "," ts = Str.join "," ts := StrLaws.glued_eq_join _ _
  refine ⟨⟨fun c hcm => ?_, ?_⟩, Nat.le_trans (List.length_filterMap_le _ _) (by omega)⟩
  · rw [e] at hcm
    have key : ∀ us : List Str, (∀ p ∈ us, ∃ b, PieceOk p b) → ∀ c ∈ sg (Str.join "," us), c < 128 := by
      intro us
      induction us with
      | nil => intro _ c h; exact absurd h (by show ¬ c ∈ ([] : List Nat); simp)
      | cons x r ih =>
        intro hu c h
        obtain ⟨b, hx⟩ := hu x List.mem_cons_self
        cases r with
        | nil => exact hx.asc c h
        | cons y r =>
          have e2 := join_sg 44 x y r
          rw [show ("," : Str) = ⟨#[44]⟩ from rfl, e2] at h
          rcases List.mem_append.mp h with z | z
          · exact hx.asc c z
          · rcases List.mem_cons.mp z with z | z
            · omega
            · exact ih (fun p hp => hu p (List.mem_cons_of_mem _ hp)) c z
    exact key ts hp c hcm
  · rw [e]
    refine Nat.le_trans (StrLaws.join_length_le _ _) ?_
    have h := StrLaws.sumLen_le (B := 30) ts (fun y hy => by obtain ⟨b, q⟩ := hp y hy; exact q.len)
    have e1 : (("," : Str)).length = 1 := rfl
    rw [e1]
    omega
section
variable {P : Program} {w : World} {K : PySem.W.Frag} {mg : Str → Option Value} {base : Heap}
/-- a turn behind the count of its pieces -/
theorem turn2 (B : Blt mg) (Ga : Has P w K mg base 1 "_law_at" ["_law_script", "_law_k"] (sp_at2 K)) (Gl : Has P w K mg base 2 "_law_line_of" ["_law_cells", "_law_count", "_law_head"] (sp_line_of K)) {f : Addr} {cdv : Value} {A : Around} {outer : List Env} {s : Shared} {H : Hp} {E : XK} (hr : Room 6 (A.deeper (envOfC "law" (defScope s_law) s.heap.objs.size f cdv))) :
    ∃ t, PSs (cxOf CX0 P w K mg base NL "law" (defScope s_law) f cdv A outer s H E).nox (lawFor.drop 2) t ∧
      ∀ (D : Ends) (sl ll rl : Addr) (ns : List Int) (head : Str) (n count tu : Int) (as : List Addr) (T : HTab) (ls : List Str) (v1 v8 v9 v10 v11 v12 v13 v14 v15 : Option V) (H0 : Hp), H0 sl = some (.lst (ns.map V.int)) → HeadOk head n → 0 ≤ tu → 0 ≤ count → count ≤ 4 → Own H0 rl as T → ll ∉ rl :: as → H0 ll = some (.lst ((head :: ls).map V.str)) →
        sl ≠ ll → sl ∉ rl :: as → ls.length ≤ 90 → T.length ≤ 90 → (okLines (head :: ls) = true → T = ls.map rowR) →
        (∀ w8 w9 w10 w11 line row b H', Txl line → row.length ≤ 4 → H' sl = some (.lst (ns.map V.int)) → Own H' rl (as ++ [b]) (T ++ [row]) → ll ∉ rl :: (as ++ [b]) → sl ∉ rl :: (as ++ [b]) → H' ll = some (.lst ((head :: (ls ++ [line])).map V.str)) → (okLines (head :: (ls ++ [line])) = true → T ++ [row] = (ls ++ [line]).map rowR) →
          D.nx [some (.ref sl), v1, some (.str head), some (.bl (okLines (head :: (ls ++ [line])))), some (.ref ll), some (.ref rl), some (.int tu), some (.int count), w8, w9, w10, w11, v12, v13, v14, v15] H') →
        t D [some (.ref sl), v1, some (.str head), some (.bl (okLines (head :: ls))), some (.ref ll), some (.ref rl), some (.int tu), some (.int count), v8, v9, v10, v11, v12, v13, v14, v15] H0 := by
  refine ⟨_, pss_cons (ps_comp (i := 8) (sc := defScope s_law) (XN := NL) (own := ["_law_k"]) (fr := ["_law_script", "_law_turn"]) (js := [0, 6]) sc_law.nd rfl rfl rfl rfl rfl rfl (⟨rfl, by decide +kernel, by decide +kernel, by decide +kernel, rfl, by decide +kernel⟩) (pi_range1 (by rfl) B.range (pa_cons pe_int pa_nil)) (fun _ _ _ _ _ => (pg_name (i := 0) (show List.Nodup (["_law_k", "_law_script", "_law_turn"] : List Str) by decide +kernel) rfl (Or.inl rfl))) (fun _ _ _ _ _ => pts_nil) (fun _ _ _ _ _ => (pe_fn Ga (hr.mono (by decide)) (by rfl) (pa_cons (pv 1) (pa_cons (pe_op op_add (pe_op op_add pe_int (pe_op op_mul pe_int (pv 2))) (pv 0)) pa_nil)))))
    (pss_cons (ps_asg (pe_fn Gl (hr.mono (by decide)) (by rfl) (pa_cons (pv 8) (pa_cons (pv 7) (pa_cons (pv 2) pa_nil)))) (pg_tup rfl (pgs_cons (pg_name (i := 9) sc_law.nd rfl (Or.inl rfl)) (pgs_cons (pg_name (i := 10) sc_law.nd rfl (Or.inl rfl)) (pgs_cons (pg_name (i := 11) sc_law.nd rfl (Or.inl rfl)) pgs_nil)))))
    (pss_cons (ps_set (i := 3) sc_law.nd rfl (Or.inl rfl) (pe_and (pv 3) (pe_one (pv 11))))
    (pss_cons (ps_if ((pw_and (pt_val (pv 3)) (pw_and1 (pt_cmpR op_ne (pe_callB call_len_seq (by rfl) B.len boot_len (pa_cons (pv 10) pa_nil)) (pe_callTy call_int_text (by rfl) B.int boot_int (pa_cons (pv 2) pa_nil)) (nomark _))))).pt (pss_one (ps_set (i := 3) sc_law.nd rfl (Or.inl rfl) pe_bl)) pss_nil)
    (pss_cons (ps_expr (pe_bm PySem.F.plainAttrs_list PySem.F.slot_list_append PySem.F.type_list_append mt_append (pv 4) (pa_cons (pv 9) pa_nil)))
    (pss_one (ps_expr (pe_bm PySem.F.plainAttrs_list PySem.F.slot_list_append PySem.F.type_list_append mt_append (pv 5) (pa_cons (pv 10) pa_nil)))))))), ?_⟩
  intro D sl ll rl ns head n count tu as T ls v1 v8 v9 v10 v11 v12 v13 v14 v15 H0 hsl hh htu hc0 hc1 o hll hl0 hsll hslr hls hTl hT kD
  refine ⟨_, rfl, by decide, by decide, ?_⟩
  refine comp_range (lo := 0) (n := 4) (fun i => some (V.int (atV ns (5 + 4 * tu + (0 + (i : Int)))))) (by decide) ?_ ?_
  · intro H1 s1 ce hce
    have ecells : (List.range 4).filterMap (fun i => some (V.int (atV ns (5 + 4 * tu + (0 + ((i : Nat) : Int)))))) = ((List.range 4).map fun i => atV ns (5 + 4 * tu + (0 + ((i : Nat) : Int)))).map V.int := by
      rw [List.map_map, show (fun i => some (V.int (atV ns (5 + 4 * tu + (0 + ((i : Nat) : Int)))))) = some ∘ (V.int ∘ fun i => atV ns (5 + 4 * tu + (0 + ((i : Nat) : Int)))) from rfl, List.filterMap_eq_map]
    rw [ecells]
    generalize hcells : (List.range 4).map (fun i => atV ns (5 + 4 * tu + (0 + ((i : Nat) : Int)))) = cells
    have hc4 : cells.length = 4 := by rw [← hcells]; rfl
    have s2 := s1.upd hce (o := HO.lst (cells.map V.int))
    have a2 : (upd H1 ce (.lst (cells.map V.int))) ce = some (.lst (cells.map V.int)) := upd_same
    generalize upd H1 ce (.lst (cells.map V.int)) = H2 at s2 a2
    refine ⟨_, rfl, _, rfl, _, rfl, ce, cells, count, head, rfl, SqL.of a2, hc4, hc0, hc1, fun tp b line row clean H3 L s3 htp hb hbn => ?_⟩
    refine ⟨tp, _, rfl, SqT.of htp, rfl, _, _, rfl, _, _, rfl, _, _, rfl, rfl, ?_⟩
    have s03 := s2.trans s3
    have o3 := o.same s03
    have hl3 := s03 _ _ hl0
    obtain ⟨hlt, hrl⟩ := line_txl L hc1
    have hcO : okLines (head :: ls) = true → isCountL (sg head) = true := fun h => by
      have : (isCountL (sg head) && ls.all (okRow (numVal (sg head)))) = true := h
      rw [Bool.and_eq_true] at this
      exact this.1
    have hlo : okLines (head :: ls) = true → _ := fun h => line_ok (n := n) L (hh.good (hcO h)).2.2
    have hb0 : H2 b = none := hbn
    have nb : b ∉ rl :: as := fun z => by
      rcases List.mem_cons.mp z with z | z
      · have := s2 _ _ o.lst
        rw [← z, hb0] at this; cases this
      · obtain ⟨r, e⟩ := (o.same s2).mem z
        rw [hb0] at e; cases e
    have hbll : b ≠ ll := fun z => by
      have := s2 _ _ hl0
      rw [← z, hb0] at this; cases this
    have hbsl : b ≠ sl := fun z => by
      have := s2 _ _ hsl
      rw [← z, hb0] at this; cases this
    have es := okLines_snoc (head := head) (line := line) (ls := ls) hh.val
    have tail : ∀ v : Bool, v = okLines (head :: (ls ++ [line])) → D.nx [some (.ref sl), v1, some (.str head), some (.bl v), some (.ref ll), some (.ref rl), some (.int tu), some (.int count), some (.ref ce), some (.str line), some (.ref b), some (.bl clean), v12, v13, v14, v15] (upd (upd H3 ll (.lst ((head :: ls).map V.str ++ [V.str line]))) rl (.lst (as.map V.ref ++ [V.ref b]))) := by
      rintro v rfl
      have hllrl : ll ≠ rl := fun z => hll (by rw [z]; exact List.mem_cons_self)
      have o4 := o3.away (ob := .lst ((head :: ls).map V.str ++ [V.str line])) hll
      have b4 : (upd H3 ll (.lst ((head :: ls).map V.str ++ [V.str line]))) b = some (.lst (row.map cellV)) := (upd_ne hbll).trans hb
      have em : as.map V.ref ++ [V.ref b] = (as ++ [b]).map V.ref := by rw [List.map_append]; rfl
      rw [em]
      have em2 : (head :: ls).map V.str ++ [V.str line] = (head :: (ls ++ [line])).map V.str := by rw [List.map_cons, List.map_cons, List.map_append]; rfl
      have o5 := o4.push b4 nb
      refine kD _ _ _ _ line row b _ hlt hrl ?_ o5 ?_ ?_ ?_ ?_
      · exact (upd_ne (fun z => hslr (by rw [z]; exact List.mem_cons_self))).trans ((upd_ne hsll).trans (s03 _ _ hsl))
      · intro z
        rcases List.mem_cons.mp z with z | z
        · exact hllrl z
        · rcases List.mem_append.mp z with z | z
          · exact hll (List.mem_cons_of_mem _ z)
          · exact hbll (List.mem_singleton.mp z).symm
      · intro z
        rcases List.mem_cons.mp z with z | z
        · exact hslr (by rw [z]; exact List.mem_cons_self)
        · rcases List.mem_append.mp z with z | z
          · exact hslr (List.mem_cons_of_mem _ z)
          · exact hbsl (List.mem_singleton.mp z).symm
      · rw [upd_ne hllrl, upd_same, em2]
      · intro hok
        rw [es, Bool.and_eq_true] at hok
        rw [List.map_append, ← hT hok.1, ← (hlo hok.1).2 hok.2]; rfl
    have szs : ((head :: ls).map V.str).length < sizeLine := Nat.lt_of_le_of_lt (show _ ≤ 1000 by rw [List.length_map, List.length_cons]; omega) (by decide)
    have sza : (as.map V.ref).length < sizeLine := Nat.lt_of_le_of_lt (show _ ≤ 1000 by rw [List.length_map, o.len]; omega) (by decide)
    have hrl3 : (upd H3 ll (.lst ((head :: ls).map V.str ++ [V.str line]))) rl = some (.lst (as.map V.ref)) := (upd_ne (fun z => hll (by rw [← z]; exact List.mem_cons_self))).trans o3.lst
    cases hf : okLines (head :: ls) with
    | false =>
      rw [hf, Bool.false_and] at es
      refine ⟨_, rfl, false, rfl, iteF ?_⟩
      refine ⟨_, rfl, false, rfl, iteF ?_⟩
      refine ⟨_, rfl, .inl ⟨rfl, _, SqL.of hl3⟩, _, rfl, ll, _, _, rfl, rfl, hl3, szs, ?_⟩
      exact ⟨_, rfl, .inl ⟨rfl, _, SqL.of hrl3⟩, _, rfl, rl, _, _, rfl, rfl, hrl3, sza, tail false es.symm⟩
    | true =>
      rw [hf, Bool.true_and, (hlo hf).1] at es
      have hcnt : isCountL (sg head) = true := hcO hf
      refine ⟨_, rfl, true, rfl, iteT ⟨_, rfl, ?_⟩⟩
      cases clean with
      | false =>
        rw [Bool.false_and] at es
        refine ⟨_, rfl, false, rfl, iteF ?_⟩
        refine ⟨_, rfl, .inl ⟨rfl, _, SqL.of hl3⟩, _, rfl, ll, _, _, rfl, rfl, hl3, szs, ?_⟩
        exact ⟨_, rfl, .inl ⟨rfl, _, SqL.of hrl3⟩, _, rfl, rl, _, _, rfl, rfl, hrl3, sza, tail false es.symm⟩
      | true =>
        rw [Bool.true_and] at es
        have hz6 : head.length ≤ 640 := by have := hh.tx.2; omega
        refine ⟨_, rfl, true, rfl, iteT ?_⟩
        refine ⟨_, rfl, b, _, rfl, .inl (SqL.of hb), _, rfl, head, _, rfl, num_text (count_num hcnt).1 hz6, hz6, rfl, _, rfl, ?_⟩
        rw [hh.val, List.length_map]
        refine ite2 (fun h => ?_) (fun h => ?_)
        · have h1 : (row.length : Int) ≠ n := neI h
          rw [decide_eq_false h1] at es
          refine ⟨_, rfl, .inl ⟨rfl, _, SqL.of hl3⟩, _, rfl, ll, _, _, rfl, rfl, hl3, szs, ?_⟩
          exact ⟨_, rfl, .inl ⟨rfl, _, SqL.of hrl3⟩, _, rfl, rl, _, _, rfl, rfl, hrl3, sza, tail false es.symm⟩
        · have h1 : (row.length : Int) = n := eqI h
          rw [decide_eq_true h1] at es
          refine ⟨_, rfl, .inl ⟨rfl, _, SqL.of hl3⟩, _, rfl, ll, _, _, rfl, rfl, hl3, szs, ?_⟩
          exact ⟨_, rfl, .inl ⟨rfl, _, SqL.of hrl3⟩, _, rfl, rl, _, _, rfl, rfl, hrl3, sza, tail true es.symm⟩
  · intro i ys H1 N hi s1 hN
    refine ⟨_, rfl, _, rfl, _, _, rfl, rfl, .inl ⟨by decide, by decide⟩, _, _, rfl, rfl, _, rfl, _, _, rfl, rfl, sl, ns, _, rfl, SqL.of (s1 _ _ hsl), by omega, hN _ s1⟩
end

end Hf

namespace Hf
open PySem PySem.Spec PyProof.Rows L2
section
variable {P : Program} {w : World} {K : PySem.W.Frag} {mg : Str → Option Value} {base : Heap} {CF CP CD CH CN CK CT : Addr}
theorem tail8 (B : Blt mg) (Y : XF K mg CF CP CD CH CN CK CT) (Gr : HasE P w K mg base 5 "read" ["lines"] (sp_readE CN)) (Gy : Has P w K mg base 6 "_law_any_refusal" ["_law_handed"] sp_any_refusal) (Gk : Has P w K mg base 1 "_law_like" ["_law_found", "_law_due"] sp_like) (Gw : Has P w K mg base 1 "_law_whole" ["_law_found"] sp_whole) (Gs : Has P w K mg base 4 "_law_same_table" ["_law_found", "_law_rows"] (sp_same_table K))
    {f : Addr} {cdv : Value} {A : Around} {outer : List Env} {s : Shared} {H : Hp} {E : XK} (hr : Room 6 (A.deeper (envOfC "law" (defScope s_law) s.heap.objs.size f cdv))) :
    ∃ t, PSs (cxOf CX0 P w K mg base NL "law" (defScope s_law) f cdv A outer s H E).nox ((defBody s_law).drop 8) t ∧
      ∀ (D : Ends) (ll rl : Addr) (head : Str) (as : List Addr) (T : HTab) (ts : List Str) (v0 v1 v6 v7 v8 v9 v10 v11 : Option V) (H0 : Hp), Txl head → H0 ll = some (.lst (ts.map V.str)) → Own H0 rl as T → (∀ r ∈ T, r.length ≤ 1000) → T.length ≤ 100 → ts.length ≤ 100 → (∀ t ∈ ts, Txl t) → (okLines ts = true → ∃ ls, ts = head :: ls ∧ T = ls.map rowR) →
        (∀ H', D.rt (.bl true) H') →
        t D [v0, v1, some (.str head), some (.bl (okLines ts)), some (.ref ll), some (.ref rl), v6, v7, v8, v9, v10, v11, none, none, none, none] H0 := by
  refine ⟨_, pss_cons (ps_set (i := 12) sc_law.nd rfl (Or.inl rfl) (pe_callTy call_list_of (by rfl) B.list boot_list (pa_cons (pv 4) pa_nil)))
    (pss_cons (ps_set (i := 13) sc_law.nd rfl (Or.inl rfl) pe_non)
    (pss_cons (ps_set (i := 14) sc_law.nd rfl (Or.inl rfl) pe_bl)
    (pss_cons (ps_try (i := 15) (n := "e") Y.f (by rfl) sc_law.nd rfl rfl rfl rfl
      (fun pins E => pss_one (ps_set (i := 13) (show List.Nodup NL from sc_law.nd) rfl (Or.inl rfl) (pe_fnE (E := E) Gr (hr.mono (by decide)) (by rfl) passT (pa_cons (pv 12) pa_nil))))
      (fun a C oe pn xe h1 h2 h3 h4 h5 => pss_cons (ps_set (i := 14) (show List.Nodup NL from sc_law.nd) rfl (Or.inl rfl) (pe_and (pe_callB (call_isxH (K := K) rfl h1 h2 h3 h4 h5) (by rfl) B.isinstance boot_isinstance (pa_cons (pv 15) (pa_cons (pe_glob (v := .ref CN) (by rfl) Y.n.gl rfl) pa_nil))) (pe_one (pe_callB (call_isxH (K := K) rfl h1 h2 h3 h4 h5) (by rfl) B.isinstance boot_isinstance (pa_cons (pv 15) (pa_cons (pe_ty (by rfl) B.vErr boot_vErr11) pa_nil))))))
        (pss_one (ps_set (i := 14) (show List.Nodup NL from sc_law.nd) rfl (Or.inl rfl) (pe_and (pv 14) (pe_one (pe_not (pe_callB (call_isxHT (K := K) rfl h1 h2 h3 h4 h5) (by rfl) B.isinstance boot_isinstance (pa_cons (pv 15) (pa_cons (pe_tup (pa_cons (pe_glob (v := .ref CD) (by rfl) Y.d rfl) (pa_cons (pe_glob (v := .ref CH) (by rfl) Y.h rfl) (pa_cons (pe_glob (v := .ref CP) (by rfl) Y.p rfl) (pa_cons (pe_glob (v := .ref CT) (by rfl) Y.t rfl) (pa_cons (pe_glob (v := .ref CK) (by rfl) Y.k rfl) pa_nil)))))) pa_nil))))))))))
    (pss_cons (ps_if ((pw_and (pt_val (pv 14)) (pw_and1 (pt_not (pt_val (pe_fn Gy hr (by rfl) (pa_cons (pv 12) pa_nil))))))).pt (pss_one (ps_ret pe_bl)) pss_nil)
    (pss_cons (ps_if ((pw_or (pt_not (pt_val (pe_fn Gk (hr.mono (by decide)) (by rfl) (pa_cons (pv 12) (pa_cons (pv 4) pa_nil))))) (pw_or (pt_val (pv 14)) (pw_or1 (pt_not (pt_val (pv 3))))))).pt (pss_one (ps_ret (pe_and (pe_fn Gk (hr.mono (by decide)) (by rfl) (pa_cons (pv 12) (pa_cons (pv 4) pa_nil))) (pe_and (pv 14) (pe_one (pe_not (pv 3))))))) pss_nil)
    (pss_cons (ps_if ((pw_or (pt_not (pt_val (pe_callB call_isi (by rfl) B.isinstance boot_isinstance (pa_cons (pv 13) (pa_cons (pe_ty (by rfl) B.tuple boot_tuple10) pa_nil))))) (pw_or (pt_cmpR op_ne (pe_callB call_len_seq (by rfl) B.len boot_len (pa_cons (pv 13) pa_nil)) pe_int (nomark _)) (pw_or1 (pt_not (pt_val (pe_fn Gw (hr.mono (by decide)) (by rfl) (pa_cons (pe_ix ix_tup (pv 13) pe_int (fun _ _ => rfl)) pa_nil)))))))).pt (pss_one (ps_ret pe_bl)) pss_nil)
    (pss_one (ps_ret (pe_and (pe_cmpR op_eq (pe_ix ix_tup (pv 13) pe_int (fun _ _ => rfl)) (pe_callTy call_int_text (by rfl) B.int boot_int (pa_cons (pv 2) pa_nil)) (nomark _)) (pe_one (pe_fn Gs (hr.mono (by decide)) (by rfl) (pa_cons (pe_ix ix_tup (pv 13) pe_int (fun _ _ => rfl)) (pa_cons (pv 5) pa_nil))))))))))))), ?_⟩
  intro D ll rl head as T ts v0 v1 v6 v7 v8 v9 v10 v11 H0 hhd hl0 o hrw hTl htl htx hT kD
  refine ⟨_, rfl, ll, _, rfl, .inl (SqL.of hl0), fun hd hhd0 => ?_⟩
  have s1 : Same H0 (upd H0 hd (.lst (ts.map V.str))) := (Same.refl H0).upd hhd0
  have a1 : (upd H0 hd (.lst (ts.map V.str))) hd = some (.lst (ts.map V.str)) := upd_same
  generalize upd H0 hd (.lst (ts.map V.str)) = H1 at s1 a1
  have o1 := o.same s1
  have l1 := s1 _ _ hl0
  refine ⟨_, rfl, hd, ts, rfl, a1, htl, htx, fun h0 rs e hok tp l bs H2 s2 htp o2 => ?_, fun hbad H2 s2 => ?_⟩
  · obtain ⟨ls, e2, hTe⟩ := hT hok
    rw [e] at e2
    obtain ⟨e4, e5⟩ := List.cons.inj e2
    subst e4 e5
    rw [hok]
    have hcnt : isCountL (sg h0) = true := by
      rw [e] at hok
      have : (isCountL (sg h0) && rs.all (okRow (numVal (sg h0)))) = true := hok
      rw [Bool.and_eq_true] at this
      exact this.1
    have a2 := s2 _ _ a1
    have l2 := s2 _ _ l1
    have o12 := o1.same s2
    refine ⟨_, rfl, false, rfl, iteF ?_⟩
    refine ⟨_, rfl, _, rfl, hd, ll, ts, rfl, a2, l2, htl, fun H3 s3 => ?_⟩
    refine ⟨true, rfl, iteF ?_⟩
    refine ⟨_, rfl, false, rfl, iteF ?_⟩
    refine ⟨_, rfl, true, rfl, iteF ?_⟩
    have tp3 := s3 _ _ htp
    have o23 := o2.same s3
    have o13 := o12.same s3
    refine ⟨_, rfl, _, _, _, true, rfl, .tup tp3, by rfl, _, rfl, iteF ?_⟩
    refine ⟨_, rfl, tp, _, rfl, .inr (SqT.of tp3), rfl, _, rfl, iteF ?_⟩
    refine ⟨_, rfl, tp, _, _, .int (numVal (sg h0)), rfl, rfl, SqT.of tp3, rfl, some (numVal (sg h0)), rfl, _, rfl, iteF ?_⟩
    have hz6 : h0.length ≤ 640 := by have := hhd.2; omega
    refine ⟨_, rfl, tp, _, _, .int (numVal (sg h0)), rfl, rfl, SqT.of tp3, rfl, _, rfl, h0, _, rfl, num_text (count_num hcnt).1 hz6, hz6, rfl, _, rfl, ?_⟩
    rw [decide_eq_true rfl]
    refine iteT ?_
    have hrw2 : ∀ (i : Nat) c r, bs[i]? = some c → (rs.map rowR)[i]? = some r → H3 c = some (.lst (r.map cellV)) ∧ r.length ≤ 1000 := fun i c r e1 e2 => ⟨o23.row i c r e1 e2, hrw r (by rw [hTe]; exact List.mem_of_getElem? e2)⟩
    refine ⟨_, rfl, tp, _, _, .ref l, rfl, rfl, SqT.of tp3, rfl, _, rfl, l, rl, bs, rs.map rowR, T, rfl, o23.lst, o23.len, hrw2, o13.tab, by rw [← hTe]; omega, fun t ht => ?_⟩
    rw [ht.mpr hTe.symm]
    exact kD H3
  · have a2 := s2 _ _ a1
    have l2 := s2 _ _ l1
    refine ⟨CN, rfl, Y.exN, Y.n.xc, fun e he => ?_⟩
    refine ⟨_, rfl, .ref CN, .ref CN, true, rfl, fun v z => z, Y.nn, true, rfl, iteT ?_⟩
    refine ⟨_, rfl, .ty "ValueError", .type "ValueError", true, rfl, fun v z => z, Y.vN, ?_⟩
    refine ⟨_, rfl, true, rfl, iteT ?_⟩
    refine ⟨_, rfl, by show 5 ≤ sizeLine; decide, fun q hq => ⟨q, [CD, CH, CP, CT, CK].map V.ref, [CD, CH, CP, CT, CK].map Value.ref, false, rfl, upd_same, fun vs z => vals_refs z, Y.oN, false, rfl, ?_⟩⟩
    have s3 := (Same.refl H2).upd hq (o := HO.tup ([CD, CH, CP, CT, CK].map V.ref))
    have a3 := s3 _ _ a2
    have l3 := s3 _ _ l2
    show _
    refine ⟨_, rfl, true, rfl, iteT ?_⟩
    refine ⟨_, rfl, hd, ts, rfl, a3, htl, htx, hbad, fun H4 s4 => ?_⟩
    refine ⟨true, rfl, iteF ?_⟩
    refine ⟨_, rfl, _, rfl, hd, ll, ts, rfl, s4 _ _ a3, s4 _ _ l3, htl, fun H5 s5 => ?_⟩
    refine ⟨true, rfl, iteF ?_⟩
    refine ⟨_, rfl, true, rfl, iteT ?_⟩
    refine ⟨_, rfl, _, rfl, hd, ll, ts, rfl, s5 _ _ (s4 _ _ a3), s5 _ _ (s4 _ _ l3), htl, fun H6 s6 => ?_⟩
    refine ⟨true, rfl, iteT ?_⟩
    refine ⟨_, rfl, true, rfl, iteT ?_⟩
    rw [hbad]
    exact ⟨_, rfl, false, rfl, kD H6⟩
end

end Hf

namespace Hf
open PySem PySem.Spec PyProof.Rows L2
section
variable {P : Program} {w : World} {K : PySem.W.Frag} {mg : Str → Option Value} {base : Heap} {CF CP CD CH CN CK CT : Addr}
abbrev headsV : List V := [V.str "0", .str "1", .str "2", .str "3", .str "2", .str "1", .str "-1", .str "-1", .str "01", .str "+2", .str " 2", .str ""]
theorem headOk_of {h : Str} (hx : ((sg h).all (fun c => decide (c < 128)) && decide (h.length ≤ 600) && (!isCountL (sg h) || (decide (0 ≤ numVal (sg h)) && decide (numVal (sg h) ≤ 3) && (decide (sg h = [48]) == decide (numVal (sg h) = 0))))) = true) : HeadOk h (numVal (sg h)) := by
  simp only [Bool.and_eq_true, Bool.or_eq_true, Bool.not_eq_true', decide_eq_true_eq, beq_iff_eq, List.all_eq_true] at hx
  obtain ⟨⟨h1, h2⟩, h3⟩ := hx
  refine ⟨⟨h1, h2⟩, rfl, fun hc => ?_⟩
  rcases h3 with z | ⟨⟨z1, z2⟩, z3⟩
  · rw [hc] at z; cases z
  · refine ⟨z1, z2, ?_⟩
    have e0 : sg ("0" : Str) = [48] := by decide +kernel
    have e1 : h = "0" ↔ sg h = [48] := ⟨fun e => by rw [e]; exact e0, fun e => sg_inj (e.trans e0.symm)⟩
    rw [e1]
    have := Bool.eq_iff_iff.mp z3
    rwa [decide_eq_true_iff, decide_eq_true_iff] at this
theorem heads_atN : ∀ n : Nat, n < 12 → ∃ head, atI headsV (n : Int) = some (.str head) ∧ HeadOk head (numVal (sg head)) ∧ decide ((n : Int) < 6) = okLines [head]
  | 0, _ => ⟨_, rfl, headOk_of (by decide +kernel), by decide +kernel⟩
  | 1, _ => ⟨_, rfl, headOk_of (by decide +kernel), by decide +kernel⟩
  | 2, _ => ⟨_, rfl, headOk_of (by decide +kernel), by decide +kernel⟩
  | 3, _ => ⟨_, rfl, headOk_of (by decide +kernel), by decide +kernel⟩
  | 4, _ => ⟨_, rfl, headOk_of (by decide +kernel), by decide +kernel⟩
  | 5, _ => ⟨_, rfl, headOk_of (by decide +kernel), by decide +kernel⟩
  | 6, _ => ⟨_, rfl, headOk_of (by decide +kernel), by decide +kernel⟩
  | 7, _ => ⟨_, rfl, headOk_of (by decide +kernel), by decide +kernel⟩
  | 8, _ => ⟨_, rfl, headOk_of (by decide +kernel), by decide +kernel⟩
  | 9, _ => ⟨_, rfl, headOk_of (by decide +kernel), by decide +kernel⟩
  | 10, _ => ⟨_, rfl, headOk_of (by decide +kernel), by decide +kernel⟩
  | 11, _ => ⟨_, rfl, headOk_of (by decide +kernel), by decide +kernel⟩
  | n + 12, h => absurd h (by omega)
theorem heads_at (r : Int) (h0 : 0 ≤ r) (h1 : r < 12) : ∃ head, atI headsV r = some (.str head) ∧ HeadOk head (numVal (sg head)) ∧ decide (r < 6) = okLines [head] := by
  obtain ⟨n, rfl⟩ := Int.eq_ofNat_of_zero_le h0
  exact heads_atN n (by omega)
def spLaw (K : PySem.W.Frag) : Sp := fun vs H Q _ => ∃ (a : Addr) (ns : List Int), vs = [.ref a] ∧ SqL K H a (ns.map V.int) ∧ ns.length ≤ 63 ∧ ∀ H', Q (.bl true) H'
theorem ok_law (B : Blt mg) (Y : XF K mg CF CP CD CH CN CK CT) (Ga : Has P w K mg base 1 "_law_at" ["_law_script", "_law_k"] (sp_at2 K)) (Gl : Has P w K mg base 2 "_law_line_of" ["_law_cells", "_law_count", "_law_head"] (sp_line_of K)) (Gr : HasE P w K mg base 5 "read" ["lines"] (sp_readE CN)) (Gy : Has P w K mg base 6 "_law_any_refusal" ["_law_handed"] sp_any_refusal) (Gk : Has P w K mg base 1 "_law_like" ["_law_found", "_law_due"] sp_like) (Gw : Has P w K mg base 1 "_law_whole" ["_law_found"] sp_whole) (Gs : Has P w K mg base 4 "_law_same_table" ["_law_found", "_law_rows"] (sp_same_table K))
    {f : Addr} {fd : FuncData} (F : Fun K "law" "law" s_law f fd) : FnOk P w K mg base CX0 7 f fd ["_law_script"] (spLaw K) := by
  refine funW F sc_law (fun vs H Q E h => ?_) (fun cdv A outer s H vs Q E hr h => ?_)
  · obtain ⟨a, ns, rfl, _⟩ := h
    rfl
  · obtain ⟨a, ns, rfl, hS, hn, k⟩ := h
    obtain ⟨t2, h2, r2⟩ := turn2 (P := P) (w := w) (K := K) (mg := mg) (base := base) B Ga Gl (f := f) (cdv := cdv) (A := A) (outer := outer) (s := s) (H := H) (E := E) hr
    obtain ⟨t8, h8, r8⟩ := tail8 (P := P) (w := w) (K := K) (mg := mg) (base := base) B Y Gr Gy Gk Gw Gs (f := f) (cdv := cdv) (A := A) (outer := outer) (s := s) (H := H) (E := E) hr
    refine ⟨_, w_cons (w_one (ps_set (i := 0) sc_law.nd rfl (Or.inr rfl) (pe_slice sl_list (pv 0) po_none (po_some pe_int))))
      (w_cons (w_set (i := 1) sc_law.nd rfl (Or.inl rfl) pe_lst12)
      (w_of (pss_cons (ps_set (i := 2) sc_law.nd rfl (Or.inl rfl) (pe_ix ix_list (pv 1) (pe_op op_mod (pe_fn Ga (hr.mono (by decide)) (by rfl) (pa_cons (pv 0) (pa_cons pe_int pa_nil))) pe_int) (fun _ _ => rfl)))
      (pss_cons (ps_set (i := 3) sc_law.nd rfl (Or.inl rfl) (pe_cmpR op_lt (pe_op op_mod (pe_fn Ga (hr.mono (by decide)) (by rfl) (pa_cons (pv 0) (pa_cons pe_int pa_nil))) pe_int) pe_int (nomark _)))
      (pss_cons (ps_set (i := 4) sc_law.nd rfl (Or.inl rfl) (pe_lst (pa_cons (pv 2) pa_nil)))
      (pss_cons (ps_set (i := 5) sc_law.nd rfl (Or.inl rfl) (pe_lst pa_nil))
      (pss_cons (ps_for PassesOwn.never rfl (pi_range1 (by rfl) B.range (pa_cons (pe_op op_mod (pe_op op_fdiv (pe_fn Ga (hr.mono (by decide)) (by rfl) (pa_cons (pv 0) (pa_cons pe_int pa_nil))) pe_int) pe_int) pa_nil)) (pg_name (i := 6) sc_law.nd rfl (Or.inr rfl)) (pss_cons (ps_set (i := 7) sc_law.nd rfl (Or.inl rfl) (pe_op op_add pe_int (pe_op op_mod (pe_fn Ga (hr.mono (by decide)) (by rfl) (pa_cons (pv 0) (pa_cons (pe_op op_add pe_int (pv 6)) pa_nil))) pe_int)))
        (pss_cons (ps_if ((pw_and (pt_cmpR op_gt (pe_op op_mod (pe_op op_fdiv (pe_fn Ga (hr.mono (by decide)) (by rfl) (pa_cons (pv 0) (pa_cons (pe_op op_add pe_int (pv 6)) pa_nil))) pe_int) pe_int) pe_int (nomark _)) (pw_and1 (pt_val (pv 3))))).pt (pss_one (ps_set (i := 7) sc_law.nd rfl (Or.inl rfl) (pe_callTy call_int_text (by rfl) B.int boot_int (pa_cons (pv 2) pa_nil)))) pss_nil) h2)))
      (pss_cons (ps_if (pt_cmpR op_eq (pe_op op_mod (pe_fn Ga (hr.mono (by decide)) (by rfl) (pa_cons (pv 0) (pa_cons pe_int pa_nil))) pe_int) pe_int (nomark _)) (pss_cons (ps_set (i := 4) sc_law.nd rfl (Or.inl rfl) (pe_lst pa_nil)) (pss_one (ps_set (i := 3) sc_law.nd rfl (Or.inl rfl) pe_bl))) pss_nil) h8)))))))), ?_⟩
    have e0 : cutV (ns.map V.int) none (some 1000) = (ns.take 1000).map V.int := cut_to ns 1000
    refine ⟨_, rfl, 1000, rfl, a, _, rfl, hS, fun sl hsl0 => ?_⟩
    rw [e0, List.take_of_length_le (show ns.length ≤ 1000 by omega)]
    have hsl1 : (upd H sl (.lst (ns.map V.int))) sl = some (.lst (ns.map V.int)) := upd_same
    generalize upd H sl (.lst (ns.map V.int)) = H1 at hsl1
    refine ⟨by show 12 ≤ sizeLine; decide, fun hs hhs => ?_⟩
    have s2 := (Same.refl H1).upd hhs (o := HO.lst headsV)
    have a2 : (upd H1 hs (HO.lst headsV)) hs = some (.lst headsV) := upd_same
    show _
    generalize upd H1 hs (HO.lst headsV) = H2 at s2 a2
    have hsl2 := s2 _ _ hsl1
    obtain ⟨head, hat, hok, hfine⟩ := heads_at (atV ns 0 % 12) (Int.emod_nonneg _ (by decide)) (Int.emod_lt_of_pos _ (by decide))
    refine ⟨_, rfl, _, rfl, sl, ns, 0, rfl, SqL.of hsl2, by decide, _, _, rfl, rfl, (show (0 : Int) < 12 by decide), hs, _, _, .str head, rfl, rfl, SqL.of a2, hat, ?_⟩
    refine ⟨_, rfl, sl, ns, 0, rfl, SqL.of hsl2, by decide, _, _, rfl, rfl, (show (0 : Int) < 12 by decide), _, _, rfl, rfl, ?_⟩
    dsimp only
    rw [hfine]
    refine ⟨_, rfl, by show 1 ≤ sizeLine; decide, fun ll hll => ?_⟩
    refine ⟨by decide, fun rl hrl => ?_⟩
    have hlr : ll ≠ rl := fun e => by rw [← e, upd_same] at hrl; cases hrl
    have s3 : Same H2 (upd (upd H2 ll (.lst [V.str head])) rl (.lst [])) := ((Same.refl H2).upd hll).upd hrl
    have l3 : (upd (upd H2 ll (.lst [V.str head])) rl (.lst [])) ll = some (.lst [V.str head]) := (upd_ne hlr).trans upd_same
    have r3 : (upd (upd H2 ll (.lst [V.str head])) rl (.lst [])) rl = some (.lst []) := upd_same
    have hsl3 := s3 _ _ hsl2
    have hsll : sl ≠ ll := fun e => by rw [e, hll] at hsl2; cases hsl2
    have hslr : sl ≠ rl := fun e => by
      have := (upd_ne hsll (o := HO.lst [V.str head])).trans hsl2
      rw [e, hrl] at this; cases this
    generalize upd (upd H2 ll (.lst [V.str head])) rl (.lst []) = H3 at s3 l3 r3 hsl3
    refine ⟨_, rfl, sl, ns, 0, rfl, SqL.of hsl3, by decide, _, _, rfl, rfl, ⟨by decide, by decide⟩, _, _, rfl, rfl, (show (0 : Int) < 4 by decide), _, rfl, ?_, ?_, ?_⟩
    · have h := Int.emod_nonneg (atV ns 0 / 12) (b := 4) (by decide)
      show _ ≤ atV ns 0 / 12 % 4
      omega
    · have h := Int.emod_lt_of_pos (atV ns 0 / 12) (b := 4) (by decide)
      show atV ns 0 / 12 % 4 < _
      omega
    have hn4 : (atV ns 0 / 12 % 4).toNat ≤ 3 := by
      have := Int.emod_lt_of_pos (atV ns 0 / 12) (b := 4) (by decide); omega
    show _
    generalize (atV ns 0 / 12 % 4).toNat = nt at hn4
    refine for_range (fun i σ H4 => ∃ (v6 v7 v8 v9 v10 v11 : Option V) (as : List Addr) (T : HTab) (ls : List Str), σ = [some (.ref sl), some (.ref hs), some (.str head), some (.bl (okLines (head :: ls))), some (.ref ll), some (.ref rl), v6, v7, v8, v9, v10, v11, none, none, none, none] ∧
        ls.length = i ∧ T.length = i ∧ (∀ t ∈ ls, Txl t) ∧ (∀ r ∈ T, r.length ≤ 1000) ∧ H4 sl = some (.lst (ns.map V.int)) ∧ Own H4 rl as T ∧ ll ∉ rl :: as ∧ sl ∉ rl :: as ∧ H4 ll = some (.lst ((head :: ls).map V.str)) ∧ (okLines (head :: ls) = true → T = ls.map rowR))
      ⟨_, _, _, _, _, _, [], [], [], rfl, rfl, rfl, fun t ht => (nomatch ht), fun r hr => (nomatch hr), hsl3, ⟨r3, rfl, by simp, fun i b r e => by simp at e⟩, by simpa using hlr, by simpa using hslr, l3, fun _ => rfl⟩ ?_ ?_
    · rintro i σ H4 hi ⟨v6, v7, v8, v9, v10, v11, as, T, ls, rfl, hls, hTl, htx, hrw, hsl4, o4, hll4, hslr4, l4, hT4⟩
      have cont : ∀ (w7 w8 w9 w10 w11 : Option V) line row b H', Txl line → row.length ≤ 4 → H' sl = some (.lst (ns.map V.int)) → Own H' rl (as ++ [b]) (T ++ [row]) → ll ∉ rl :: (as ++ [b]) → sl ∉ rl :: (as ++ [b]) → H' ll = some (.lst ((head :: (ls ++ [line])).map V.str)) → (okLines (head :: (ls ++ [line])) = true → T ++ [row] = (ls ++ [line]).map rowR) →
          ∃ (v6 v7 v8 v9 v10 v11 : Option V) (as : List Addr) (T : HTab) (us : List Str), [some (.ref sl), some (.ref hs), some (.str head), some (.bl (okLines (head :: (ls ++ [line])))), some (.ref ll), some (.ref rl), some (.int (0 + (i : Int))), w7, w8, w9, w10, w11, none, none, none, none] = [some (.ref sl), some (.ref hs), some (.str head), some (.bl (okLines (head :: us))), some (.ref ll), some (.ref rl), v6, v7, v8, v9, v10, v11, none, none, none, none] ∧
            us.length = i + 1 ∧ T.length = i + 1 ∧ (∀ t ∈ us, Txl t) ∧ (∀ r ∈ T, r.length ≤ 1000) ∧ H' sl = some (.lst (ns.map V.int)) ∧ Own H' rl as T ∧ ll ∉ rl :: as ∧ sl ∉ rl :: as ∧ H' ll = some (.lst ((head :: us).map V.str)) ∧ (okLines (head :: us) = true → T = us.map rowR) := by
        intro w7 w8 w9 w10 w11 line row b H' hlt hrl' hsl' o' h1 h2 h3 h4
        refine ⟨_, _, _, _, _, _, as ++ [b], T ++ [row], ls ++ [line], rfl, by rw [List.length_append, hls]; rfl, by rw [List.length_append, hTl]; rfl, fun t ht => ?_, fun r hr => ?_, hsl', o', h1, h2, h3, h4⟩
        · rcases List.mem_append.mp ht with z | z
          · exact htx t z
          · rw [List.mem_singleton.mp z]; exact hlt
        · rcases List.mem_append.mp hr with z | z
          · exact hrw r z
          · rw [List.mem_singleton.mp z]; omega
      have hc0 := Int.emod_nonneg (atV ns (1 + (0 + (i : Int)))) (b := 4) (by decide)
      have hc1 := Int.emod_lt_of_pos (atV ns (1 + (0 + (i : Int)))) (b := 4) (by decide)
      refine ⟨_, rfl, _, rfl, _, _, rfl, rfl, sl, ns, _, rfl, SqL.of hsl4, by omega, _, _, rfl, rfl, (show (0 : Int) < 4 by decide), _, _, rfl, rfl, ?_⟩
      refine ⟨_, rfl, _, rfl, _, _, rfl, rfl, sl, ns, _, rfl, SqL.of hsl4, by omega, _, _, rfl, rfl, ⟨by decide, by decide⟩, _, _, rfl, rfl, (show (0 : Int) < 3 by decide), _, _, rfl, rfl, _, rfl, ?_⟩
      refine ite2 (fun _ => ?_) (fun _ => ?_)
      · refine ⟨_, rfl, _, rfl, ?_⟩
        refine ite2 (fun hf => ?_) (fun hf => ?_)
        · have hcnt : isCountL (sg head) = true := by
            have : (isCountL (sg head) && ls.all (okRow (numVal (sg head)))) = true := hf
            rw [Bool.and_eq_true] at this
            exact this.1
          obtain ⟨g0, g1, _⟩ := hok.good hcnt
          have hz6 : head.length ≤ 640 := by have := hok.tx.2; omega
          refine ⟨_, rfl, head, _, rfl, num_text (count_num hcnt).1 hz6, hz6, ?_⟩
          exact r2 _ sl ll rl ns head _ _ _ as T ls _ _ _ _ _ _ _ _ _ H4 hsl4 hok (by omega) g0 (by omega) o4 hll4 l4 hsll hslr4 (by omega) (by omega) hT4 fun w8 w9 w10 w11 => cont _ w8 w9 w10 w11
        · exact r2 _ sl ll rl ns head _ _ _ as T ls _ _ _ _ _ _ _ _ _ H4 hsl4 hok (by omega) (by omega) (by omega) o4 hll4 l4 hsll hslr4 (by omega) (by omega) hT4 fun w8 w9 w10 w11 => cont _ w8 w9 w10 w11
      · refine iteF ?_
        exact r2 _ sl ll rl ns head _ _ _ as T ls _ _ _ _ _ _ _ _ _ H4 hsl4 hok (by omega) (by omega) (by omega) o4 hll4 l4 hsll hslr4 (by omega) (by omega) hT4 fun w8 w9 w10 w11 => cont _ w8 w9 w10 w11
    · rintro σ H4 ⟨v6, v7, v8, v9, v10, v11, as, T, ls, rfl, hls, hTl, htx, hrw, hsl4, o4, hll4, hslr4, l4, hT4⟩
      refine ⟨_, rfl, sl, ns, 1, rfl, SqL.of hsl4, by decide, _, _, rfl, rfl, (show (0 : Int) < 10 by decide), rfl, _, rfl, ?_⟩
      refine ite2 (fun _ => ?_) (fun _ => ?_)
      · refine ⟨by decide, fun l2 hl2 => ?_⟩
        exact r8 _ l2 rl head as T [] _ _ _ _ _ _ _ _ _ hok.tx upd_same (o4.same ((Same.refl H4).upd hl2)) hrw (by omega) (by decide) (fun t ht => (nomatch ht)) (fun z => (nomatch z)) k
      · exact r8 _ ll rl head as T (head :: ls) _ _ _ _ _ _ _ _ H4 hok.tx l4 o4 hrw (by omega) (by rw [List.length_cons]; omega) (fun t ht => by
          rcases List.mem_cons.mp ht with z | z
          · rw [z]; exact hok.tx
          · exact htx t z) (fun z => ⟨ls, rfl, hT4 z⟩) k
end

end Hf

namespace Hf
open PySem PySem.Spec PyProof.Rows L2
/-- a def as the top has written it -/
def DefK (K : PySem.W.Frag) (x : Str) (st : Stmt) : Prop := ∃ (f : Addr) (oc : Value) (od an : Option Addr) (osl : Array (Option Value)) (kV doc pm cdv ct : Value),
  PySem.W.nsIn K mainGlobals x = some (some (.ref f)) ∧ K.lookup f = some ⟨oc, od, .func (PySem.W.fnOf x x (defArgs st) (defBody st) (defScope st) .none kV doc pm an cdv ct), osl⟩ ∧ PySem.W.codeIn K cdv x = true ∧ PySem.W.keepIn K (.ref f) = true
theorem defK_mk {K : PySem.W.Frag} {x : Str} {st : Stmt} {f : Addr} {oc : Value} {od an : Option Addr} {osl : Array (Option Value)} {kV doc pm cdv ct : Value} (a : PySem.W.nsIn K mainGlobals x = some (some (.ref f)))
    (l : K.lookup f = some ⟨oc, od, .func (PySem.W.fnOf x x (defArgs st) (defBody st) (defScope st) .none kV doc pm an cdv ct), osl⟩) (c : PySem.W.codeIn K cdv x = true) (k : PySem.W.keepIn K (.ref f) = true) : DefK K x st :=
  ⟨f, oc, od, an, osl, kV, doc, pm, cdv, ct, a, l, c, k⟩
theorem DefK.is {K : PySem.W.Frag} {x : Str} {st : Stmt} {h : Heap} {mg : Str → Option Value} {ps : List Str} (D : DefK K x st) (X : K.In h) (G : h.Ns mainGlobals mg)
    (hb : ∀ (kV doc pm : Value) (an : Option Addr) (cdv ct : Value) (us : List Value), us.length = ps.length → bindArgs (PySem.W.fnOf x x (defArgs st) (defBody st) (defScope st) .none kV doc pm an cdv ct) ⟨us, []⟩ = pure (ps.zip us)) : DefIs K mg x st ps := by
  obtain ⟨f, oc, od, an, osl, kV, doc, pm, cdv, ct, a, l, c, k⟩ := D
  have F := fun_mk (st := st) l c k
  exact ⟨f, _, F, F.binds hb, PySem.W.mg_of X G a⟩
theorem exm_mk {K : PySem.W.Frag} {t c : Value} (h1 : PySem.W.subIn K c (.type "BaseException") = some true) (h2 : PySem.W.kitOne K t c = some true) (h3 : (t == c) = false) : PySem.W.exmOne K t c = some true := by
  unfold PySem.W.exmOne
  rw [h1]
  unfold PySem.W.kitOne at h2
  rw [h3] at h2
  exact h2
theorem all_mk {l : PySem.W.OpenLaw} {w : World} {K : PySem.W.Frag} {h : Heap} {mg : Str → Option Value} {fa : Addr} (X : K.In h) (G : h.Ns mainGlobals mg) (hfa : mg "law" = some (.ref fa)) (d_is_count : DefK K "is_count" s_is_count) (d_is_number : DefK K "is_number" s_is_number) (d_read_count : DefK K "read_count" s_read_count) (d_read_cost : DefK K "read_cost" s_read_cost) (d_pieces_of : DefK K "pieces_of" s_pieces_of) (d_read_row : DefK K "read_row" s_read_row) (d_are_lines : DefK K "are_lines" s_are_lines) (d_read : DefK K "read" s_read) (d_whole : DefK K "_law_whole" s_whole) (d_at : DefK K "_law_at" s_at) (d_same_cost : DefK K "_law_same_cost" s_same_cost) (d_same_row : DefK K "_law_same_row" s_same_row) (d_same_table : DefK K "_law_same_table" s_same_table) (d_piece_by : DefK K "_law_piece_by" s_piece_by) (d_meant : DefK K "_law_meant" s_meant) (d_line_of : DefK K "_law_line_of" s_line_of) (d_any_refusal : DefK K "_law_any_refusal" s_any_refusal) (d_like : DefK K "_law_like" s_like) (d_law : DefK K "law" s_law) (z_len : PySem.W.nsIn K mainGlobals "len" = some none) (z_range : PySem.W.nsIn K mainGlobals "range" = some none) (z_isinstance : PySem.W.nsIn K mainGlobals "isinstance" = some none) (z_int : PySem.W.nsIn K mainGlobals "int" = some none) (z_bool : PySem.W.nsIn K mainGlobals "bool" = some none) (z_list : PySem.W.nsIn K mainGlobals "list" = some none) (z_all : PySem.W.nsIn K mainGlobals "all" = some none) (z_min : PySem.W.nsIn K mainGlobals "min" = some none) (z_set : PySem.W.nsIn K mainGlobals "set" = some none) (z_zip : PySem.W.nsIn K mainGlobals "zip" = some none) (z_enumerate : PySem.W.nsIn K mainGlobals "enumerate" = some none) (z_sum : PySem.W.nsIn K mainGlobals "sum" = some none) (z_vErr : PySem.W.nsIn K mainGlobals "ValueError" = some none) (z_tuple : PySem.W.nsIn K mainGlobals "tuple" = some none) (z_str : PySem.W.nsIn K mainGlobals "str" = some none) (z_sorted : PySem.W.nsIn K mainGlobals "sorted" = some none) {tF : Tok} {CF CP CD CH CN CT CK : Addr} (nFig : PySem.W.nsIn K mainGlobals "FIGURES" = some (some (.str "0123456789" tF))) (nF : PySem.W.nsIn K mainGlobals "FairError" = some (some (.ref CF))) (nP : PySem.W.nsIn K mainGlobals "NoPrices" = some (some (.ref CP))) (nD : PySem.W.nsIn K mainGlobals "NoDealing" = some (some (.ref CD))) (nH : PySem.W.nsIn K mainGlobals "NoHand" = some (some (.ref CH))) (nN : PySem.W.nsIn K mainGlobals "NoNote" = some (some (.ref CN))) (nT : PySem.W.nsIn K mainGlobals "NoTable" = some (some (.ref CT))) (nK : PySem.W.nsIn K mainGlobals "NoTask" = some (some (.ref CK))) (eN : PySem.W.excIn K CN vMro "ValueError.__new__" = true) (xcN : XCls K CN) (exN : PySem.W.exmOne K (.ref CN) (.ref CF) = some true) (kNN : PySem.W.kitOne K (.ref CN) (.ref CN) = some true) (kNv : PySem.W.kitOne K (.ref CN) (.type "ValueError") = some true) (kNo : PySem.W.kitAny K (.ref CN) [.ref CD, .ref CH, .ref CP, .ref CT, .ref CK] = some false) :
    ∃ fd : FuncData, (∀ (s : Shared) (v : Value), BindsTo s fd ⟨[v], []⟩ [("_law_script", v)]) ∧ ∀ base : Heap, K.In base → base.Ns mainGlobals mg → FnOk l.prog w K mg base CX0 7 fa fd ["_law_script"] (spLaw K) := by
  have B : Blt mg := ⟨PySem.W.mg_none_of X G z_len, PySem.W.mg_none_of X G z_range, PySem.W.mg_none_of X G z_isinstance, PySem.W.mg_none_of X G z_int, PySem.W.mg_none_of X G z_bool, PySem.W.mg_none_of X G z_list, PySem.W.mg_none_of X G z_all, PySem.W.mg_none_of X G z_min, PySem.W.mg_none_of X G z_set, PySem.W.mg_none_of X G z_zip, PySem.W.mg_none_of X G z_enumerate, PySem.W.mg_none_of X G z_sum, PySem.W.mg_none_of X G z_vErr, PySem.W.mg_none_of X G z_tuple, PySem.W.mg_none_of X G z_str, PySem.W.mg_none_of X G z_sorted⟩
  have i_is_count := d_is_count.is X G (ps := ["text"]) fun _ _ _ _ _ _ us hl => match us, hl with | [_], _ => rfl
  have i_is_number := d_is_number.is X G (ps := ["text"]) fun _ _ _ _ _ _ us hl => match us, hl with | [_], _ => rfl
  have i_read_count := d_read_count.is X G (ps := ["line"]) fun _ _ _ _ _ _ us hl => match us, hl with | [_], _ => rfl
  have i_read_cost := d_read_cost.is X G (ps := ["piece"]) fun _ _ _ _ _ _ us hl => match us, hl with | [_], _ => rfl
  have i_pieces_of := d_pieces_of.is X G (ps := ["line"]) fun _ _ _ _ _ _ us hl => match us, hl with | [_], _ => rfl
  have i_read_row := d_read_row.is X G (ps := ["many", "line"]) fun _ _ _ _ _ _ us hl => match us, hl with | [_, _], _ => rfl
  have i_are_lines := d_are_lines.is X G (ps := ["lines"]) fun _ _ _ _ _ _ us hl => match us, hl with | [_], _ => rfl
  have i_read := d_read.is X G (ps := ["lines"]) fun _ _ _ _ _ _ us hl => match us, hl with | [_], _ => rfl
  have i_whole := d_whole.is X G (ps := ["_law_found"]) fun _ _ _ _ _ _ us hl => match us, hl with | [_], _ => rfl
  have i_at := d_at.is X G (ps := ["_law_script", "_law_k"]) fun _ _ _ _ _ _ us hl => match us, hl with | [_, _], _ => rfl
  have i_same_cost := d_same_cost.is X G (ps := ["_law_one", "_law_cost"]) fun _ _ _ _ _ _ us hl => match us, hl with | [_, _], _ => rfl
  have i_same_row := d_same_row.is X G (ps := ["_law_one", "_law_row"]) fun _ _ _ _ _ _ us hl => match us, hl with | [_, _], _ => rfl
  have i_same_table := d_same_table.is X G (ps := ["_law_found", "_law_rows"]) fun _ _ _ _ _ _ us hl => match us, hl with | [_, _], _ => rfl
  have i_piece_by := d_piece_by.is X G (ps := ["_law_cell"]) fun _ _ _ _ _ _ us hl => match us, hl with | [_], _ => rfl
  have i_meant := d_meant.is X G (ps := ["_law_piece"]) fun _ _ _ _ _ _ us hl => match us, hl with | [_], _ => rfl
  have i_line_of := d_line_of.is X G (ps := ["_law_cells", "_law_count", "_law_head"]) fun _ _ _ _ _ _ us hl => match us, hl with | [_, _, _], _ => rfl
  have i_any_refusal := d_any_refusal.is X G (ps := ["_law_handed"]) fun _ _ _ _ _ _ us hl => match us, hl with | [_], _ => rfl
  have i_like := d_like.is X G (ps := ["_law_found", "_law_due"]) fun _ _ _ _ _ _ us hl => match us, hl with | [_, _], _ => rfl
  obtain ⟨f, oc, od, an, osl, kV, doc, pm, cdv, ct, aL, lL, cL, kL⟩ := d_law
  have e := hfa.symm.trans (PySem.W.mg_of X G aL)
  cases e
  have FL := fun_mk (st := s_law) lL cL kL
  refine ⟨PySem.W.fnOf "law" "law" (defArgs s_law) (defBody s_law) (defScope s_law) .none kV doc pm an cdv ct, fun s v => .of_eq rfl, fun base _ _ => ?_⟩
  have hF := PySem.W.mg_of X G nFig
  have xN : ExC K mg "NoNote" CN := ⟨PySem.W.mg_of X G nN, eN, xcN⟩
  have Y : XF K mg CF CP CD CH CN CK CT := ⟨xN, PySem.W.mg_of X G nF, PySem.W.mg_of X G nP, PySem.W.mg_of X G nD, PySem.W.mg_of X G nH, PySem.W.mg_of X G nK, PySem.W.mg_of X G nT, exN, kNN, kNv, kNo⟩
  have g_count := ok_is_count (P := l.prog) (w := w) (base := base) B hF i_is_count
  have g_numb := ok_is_number (P := l.prog) (w := w) (base := base) g_count i_is_number
  have g_rc := ok_read_countE (P := l.prog) (w := w) (base := base) B xN g_count i_read_count
  have g_cst := ok_read_costE (P := l.prog) (w := w) (base := base) B xN g_numb i_read_cost
  have g_pcs := ok_pieces_of (P := l.prog) (w := w) (base := base) i_pieces_of
  have g_rr := ok_read_rowE (P := l.prog) (w := w) (base := base) B xN g_pcs g_cst i_read_row
  have g_al := ok_are_lines (P := l.prog) (w := w) (base := base) B i_are_lines
  have g_read := ok_readE (P := l.prog) (w := w) (base := base) B xN g_al g_rc g_rr i_read
  have g_whole := ok_whole (P := l.prog) (w := w) (base := base) B i_whole
  have g_at := ok_at2 (P := l.prog) (w := w) (base := base) B i_at
  have g_piece := ok_piece_by (P := l.prog) (w := w) (base := base) i_piece_by
  have g_meant := ok_meant (P := l.prog) (w := w) (base := base) B i_meant
  have g_line := ok_line_of (P := l.prog) (w := w) (base := base) B g_piece g_meant i_line_of
  have g_like := ok_like (P := l.prog) (w := w) (base := base) B i_like
  have g_any := ok_any_refusal (P := l.prog) (w := w) (base := base) B Y g_read i_any_refusal
  have g_cost := ok_same_cost (P := l.prog) (w := w) (base := base) B g_whole i_same_cost
  have g_row := ok_same_row (P := l.prog) (w := w) (base := base) B g_cost i_same_row
  have g_tab := ok_same_table (P := l.prog) (w := w) (base := base) B g_row i_same_table
  exact ok_law B Y g_at g_line g_read g_any g_like g_whole g_tab FL
theorem walk {l : PySem.W.OpenLaw} {q : Program} {loose : List Str} {XP : (Str → Option Value) → Heap → Prop} {YP : World → Heap → Prop} {d : DefRec} {K : Params → PySem.W.Frag} (hn : l.most = some 63) (hdf : d.params.defaults = [])
    (hY : ∀ (w : World) (h : Heap), YP w h → (K w.params).In h)
    (F : ∀ (w : World) (mg : Str → Option Value) (fa : Addr) (h : Heap), (K w.params).In h → h.Ns mainGlobals mg → mg d.name = some (.ref fa) →
      ∃ fd : FuncData, (∀ (s : Shared) (u : Value), BindsTo s fd ⟨[u], []⟩ [("_law_script", u)]) ∧ ∀ base : Heap, (K w.params).In base → base.Ns mainGlobals mg → FnOk l.prog w (K w.params) mg base CX0 7 fa fd ["_law_script"] (spLaw (K w.params))) :
    PySem.W.WalkO q loose XP YP l.row.toRowW d [] (fun f vs => PySem.call f vs) :=
  L2.walk_of (n := 63) (k := 7) (x := "_law_script") (CX := fun _ => CX0) (sp := fun w => spLaw (K w.params)) hn (by decide) hdf ⟨rfl, by decide, by decide⟩ hY F (fun _ _ a ns hl _ hS => ⟨a, ns, rfl, hS, hl, fun _ => rfl⟩) fun _ _ _ _ _ z => z
end Hf
open PySem PySem.W PyProof.Rows
set_option maxRecDepth 100000 in
set_option maxHeartbeats 0 in
theorem PySem.Challenge.cw_hirefair_k11_lines_refused_holds : PySem.Challenge.rw_hirefair_k11_lines_refused.Holds := by
  w_on; o_law; k_head; (case hw => w_witness2)
  k_fill
  refine Hf.walk (l := PySem.Challenge.rw_hirefair_k11_lines_refused) rfl rfl (fun w h Y => PySem.W.kIn_of Y) ?F
  case F =>
    intro w mg fa h KX G hmg
    refine' Hf.all_mk KX G hmg ?d_is_count ?d_is_number ?d_read_count ?d_read_cost ?d_pieces_of ?d_read_row ?d_are_lines ?d_read ?d_whole ?d_at ?d_same_cost ?d_same_row ?d_same_table ?d_piece_by ?d_meant ?d_line_of ?d_any_refusal ?d_like ?d_law ?z_len ?z_range ?z_isinstance ?z_int ?z_bool ?z_list ?z_all ?z_min ?z_set ?z_zip ?z_enumerate ?z_sum ?z_vErr ?z_tuple ?z_str ?z_sorted ?nFig ?nF ?nP ?nD ?nH ?nN ?nT ?nK ?eN ?xcN ?exN ?kNN ?kNv ?kNo
    (case d_is_count => (refine' Hf.defK_mk ?a ?l ?c ?k; (case a => k_is); (case l => k_is); (case c => k_is); (case k => k_is)))
    (case d_is_number => (refine' Hf.defK_mk ?a ?l ?c ?k; (case a => k_is); (case l => k_is); (case c => k_is); (case k => k_is)))
    (case d_read_count => (refine' Hf.defK_mk ?a ?l ?c ?k; (case a => k_is); (case l => k_is); (case c => k_is); (case k => k_is)))
    (case d_read_cost => (refine' Hf.defK_mk ?a ?l ?c ?k; (case a => k_is); (case l => k_is); (case c => k_is); (case k => k_is)))
    (case d_pieces_of => (refine' Hf.defK_mk ?a ?l ?c ?k; (case a => k_is); (case l => k_is); (case c => k_is); (case k => k_is)))
    (case d_read_row => (refine' Hf.defK_mk ?a ?l ?c ?k; (case a => k_is); (case l => k_is); (case c => k_is); (case k => k_is)))
    (case d_are_lines => (refine' Hf.defK_mk ?a ?l ?c ?k; (case a => k_is); (case l => k_is); (case c => k_is); (case k => k_is)))
    (case d_read => (refine' Hf.defK_mk ?a ?l ?c ?k; (case a => k_is); (case l => k_is); (case c => k_is); (case k => k_is)))
    (case d_whole => (refine' Hf.defK_mk ?a ?l ?c ?k; (case a => k_is); (case l => k_is); (case c => k_is); (case k => k_is)))
    (case d_at => (refine' Hf.defK_mk ?a ?l ?c ?k; (case a => k_is); (case l => k_is); (case c => k_is); (case k => k_is)))
    (case d_same_cost => (refine' Hf.defK_mk ?a ?l ?c ?k; (case a => k_is); (case l => k_is); (case c => k_is); (case k => k_is)))
    (case d_same_row => (refine' Hf.defK_mk ?a ?l ?c ?k; (case a => k_is); (case l => k_is); (case c => k_is); (case k => k_is)))
    (case d_same_table => (refine' Hf.defK_mk ?a ?l ?c ?k; (case a => k_is); (case l => k_is); (case c => k_is); (case k => k_is)))
    (case d_piece_by => (refine' Hf.defK_mk ?a ?l ?c ?k; (case a => k_is); (case l => k_is); (case c => k_is); (case k => k_is)))
    (case d_meant => (refine' Hf.defK_mk ?a ?l ?c ?k; (case a => k_is); (case l => k_is); (case c => k_is); (case k => k_is)))
    (case d_line_of => (refine' Hf.defK_mk ?a ?l ?c ?k; (case a => k_is); (case l => k_is); (case c => k_is); (case k => k_is)))
    (case d_any_refusal => (refine' Hf.defK_mk ?a ?l ?c ?k; (case a => k_is); (case l => k_is); (case c => k_is); (case k => k_is)))
    (case d_like => (refine' Hf.defK_mk ?a ?l ?c ?k; (case a => k_is); (case l => k_is); (case c => k_is); (case k => k_is)))
    (case d_law => (refine' Hf.defK_mk ?a ?l ?c ?k; (case a => k_is); (case l => k_is); (case c => k_is); (case k => k_is)))
    (case z_len => k_is)
    (case z_range => k_is)
    (case z_isinstance => k_is)
    (case z_int => k_is)
    (case z_bool => k_is)
    (case z_list => k_is)
    (case z_all => k_is)
    (case z_min => k_is)
    (case z_set => k_is)
    (case z_zip => k_is)
    (case z_enumerate => k_is)
    (case z_sum => k_is)
    (case z_vErr => k_is)
    (case z_tuple => k_is)
    (case z_str => k_is)
    (case z_sorted => k_is)
    (case nFig => k_is)
    (case nF => k_is)
    (case nP => k_is)
    (case nD => k_is)
    (case nH => k_is)
    (case nN => k_is)
    (case nT => k_is)
    (case nK => k_is)
    (case eN => k_exc)
    (case xcN => exact ⟨by k_is, by k_is, by k_is, by k_is, by k_is, by (show PySem.W.isClsIn _ _ = true; k_is)⟩)
    (case exN => (refine' Hf.exm_mk ?s1 ?s2 ?s3; (case s1 => k_is); (case s2 => kit_is); (case s3 => decide)))
    (case kNN => kit_is)
    (case kNv => kit_is)
    (case kNo => kit_is)
