import PyProof.Rows.All
import Wide.All
import OpenK.AllK
import Wide.FinOn
import PyProof.EqAt
import PyProof.EqKinds
import PyProof.TupleCall
import KE.BitLaws
import Open.SpecLaws
import KE.OsHead
import KE.OsGo
import KE.LcSums
import PyProof.P3In
import PyFlatLaws
import PySem.Challenge.RW_snowploughs_s01_answers
section
set_option Elab.async false
set_option linter.all false
set_option maxRecDepth 100000
/-! THE HAND LAYER, for ints, bools, texts, own classes, lists, tuples, dicts, comprehensions, walks over dicts, enumerate, zip, reversed, texts, calls, loops. Paste it whole ahead of your own text; what your proof does not reach may be deleted. -/
namespace L2
open PySem PySem.Spec PyProof.Rows

/-- a key: an int or a str -/
abbrev Key := Sum Int Str
def keyIs : Key → Value → Bool
  | .inl k, v => Value.isInt k v
  | .inr x, v => Value.isStrOf x v
def keyH (w : World) : Key → Int
  | .inl k => hashInt k
  | .inr x => hashStr w x
theorem keyIs_shape : ∀ {k : Key} {v : Value}, keyIs k v = true → (∃ i t, k = Sum.inl i ∧ v = Value.int i t) ∨ (∃ x t, k = Sum.inr x ∧ v = Value.str x t)
  | .inl i, v, h => by
    obtain ⟨t, e⟩ := Value.isInt_shape (k := i) (v := v) h
    exact .inl ⟨i, t, rfl, e⟩
  | .inr x, v, h => by
    obtain ⟨t, e⟩ := Value.isStrOf_shape (x := x) (v := v) h
    exact .inr ⟨x, t, rfl, e⟩
theorem key_ll (a b : Int) : decide ((Sum.inl a : Key) = Sum.inl b) = (a == b) := by
  by_cases e : a = b
  · subst e; simp
  · have h : ¬ (Sum.inl a : Key) = Sum.inl b := fun q => e (Sum.inl.inj q)
    rw [decide_eq_false h]
    exact (beq_eq_false_iff_ne.mpr e).symm
theorem key_rr (a b : Str) : decide ((Sum.inr a : Key) = Sum.inr b) = decide (a = b) := by
  by_cases e : a = b
  · subst e; simp
  · have h : ¬ (Sum.inr a : Key) = Sum.inr b := fun q => e (Sum.inr.inj q)
    rw [decide_eq_false h, decide_eq_false e]
theorem key_lr (a : Int) (b : Str) : decide ((Sum.inl a : Key) = Sum.inr b) = false := decide_eq_false (fun q => nomatch q)
theorem key_rl (a : Str) (b : Int) : decide ((Sum.inr a : Key) = Sum.inl b) = false := decide_eq_false (fun q => nomatch q)

def mixKind (prog : Program) (w : World) : PySem.KeyKind prog w Key where
  is := keyIs
  hash := keyH w
  inj := fun v a b ha hb => by
    rcases keyIs_shape ha with ⟨i, t, rfl, rfl⟩ | ⟨x, t, rfl, rfl⟩
    · rcases keyIs_shape hb with ⟨j, u, rfl, e⟩ | ⟨y, u, rfl, e⟩
      · injection e with e1 _; rw [e1]
      · exact nomatch e
    · rcases keyIs_shape hb with ⟨j, u, rfl, e⟩ | ⟨y, u, rfl, e⟩
      · exact nomatch e
      · injection e with e1 _; rw [e1]
  byValue := fun k v h => by
    rcases keyIs_shape h with ⟨i, t, rfl, rfl⟩ | ⟨x, t, rfl, rfl⟩ <;> rfl
  pyHash := fun hv h => by
    rcases keyIs_shape hv with ⟨i, t, rfl, rfl⟩ | ⟨x, t, rfl, rfl⟩
    · exact wpAny_pyHash_int h
    · exact wpAny_pyHash_str h
  eqBool := fun hu hv h => by
    rcases keyIs_shape hu with ⟨i, t, rfl, rfl⟩ | ⟨x, t, rfl, rfl⟩
    · rcases keyIs_shape hv with ⟨j, u, rfl, rfl⟩ | ⟨y, u, rfl, rfl⟩
      · rw [key_ll] at h; exact wpAny_eqBool_int h
      · rw [key_lr] at h; exact SeqAt.EqAt.int_str i t y u _ _ _ _ h
    · rcases keyIs_shape hv with ⟨j, u, rfl, rfl⟩ | ⟨y, u, rfl, rfl⟩
      · rw [key_rl] at h; exact SeqAt.EqAt.str_int x t j u _ _ _ _ h
      · rw [key_rr] at h; exact wpAny_eqBool_str h
  «strs» := fun k x t v h => by
    rcases keyIs_shape h with ⟨i, u, rfl, e⟩ | ⟨y, u, rfl, e⟩
    · exact nomatch e
    · injection e with e1 _
      subst e1
      cases v <;> rfl

end L2

namespace L2
open PySem PySem.Spec PyProof.Rows

/-- a value, without the heap -/
inductive V where
  | non | bl (b : Bool) | int (i : Int) | str (x : Str) | byt (b : Array UInt8) | flt (b : UInt64) | ref (a : Addr) | ty (n : String)
  deriving DecidableEq

def RelV : V → Value → Prop
  | .non, u => u = Value.none
  | .bl b, u => u = Value.bool b
  | .int i, u => ∃ t, u = Value.int i t
  | .str x, u => ∃ t, u = Value.str x t
  | .byt b, u => ∃ t, u = Value.bytes b t
  | .flt b, u => ∃ t, u = Value.float b t
  | .ref a, u => u = Value.ref a
  | .ty n, u => u = Value.type n

abbrev Vals : List V → List Value → Prop := Paired RelV
theorem Vals.length {xs : List V} {us : List Value} (r : Vals xs us) : xs.length = us.length := Paired.length r
theorem Vals.get : ∀ {xs : List V} {us : List Value} {i : Nat} {x : V}, Vals xs us → xs[i]? = some x → ∃ u, us[i]? = some u ∧ RelV x u
  | _, _, _, _, .nil, e => by simp at e
  | _, _, 0, _, .cons r _, e => by simp at e; subst e; exact ⟨_, rfl, r⟩
  | _, _, i + 1, x, .cons _ t, e => by
    obtain ⟨u, h1, h2⟩ := Vals.get (i := i) (x := x) t (by simpa using e)
    exact ⟨u, by simpa using h1, h2⟩
theorem Vals.set {x : V} {u : Value} (r : RelV x u) : ∀ {xs : List V} {us : List Value} (i : Nat), Vals xs us → Vals (xs.set i x) (us.set i u)
  | _, _, _, .nil => .nil
  | _, _, 0, .cons _ t => .cons r t
  | _, _, i + 1, .cons q t => .cons q (Vals.set r i t)
theorem Vals.append : ∀ {xs ys : List V} {us ws : List Value}, Vals xs us → Vals ys ws → Vals (xs ++ ys) (us ++ ws)
  | _, _, _, _, .nil, s => s
  | _, _, _, _, .cons r t, s => .cons r (Vals.append t s)
theorem Vals.take : ∀ {xs : List V} {us : List Value} (n : Nat), Vals xs us → Vals (xs.take n) (us.take n)
  | _, _, 0, _ => .nil
  | _, _, _ + 1, .nil => .nil
  | _, _, n + 1, .cons r t => .cons r (Vals.take n t)
theorem Vals.drop : ∀ {xs : List V} {us : List Value} (n : Nat), Vals xs us → Vals (xs.drop n) (us.drop n)
  | _, _, 0, r => r
  | _, _, _ + 1, .nil => .nil
  | _, _, n + 1, .cons _ t => Vals.drop n t
def RelO : Option V → Option Value → Prop
  | some v, some u => RelV v u
  | none, none => True
  | _, _ => False
def KV {κ : Type} : List (κ × V) → List (κ × Value) → Prop := Paired fun (p : κ × V) (q : κ × Value) => p.1 = q.1 ∧ RelV p.2 q.2

/-- a key of a dict (00_mix): an int or a text -/
def kV : Key → V
  | .inl i => .int i
  | .inr x => .str x

/-- what stands at a tracked address -/
inductive HO where
  /-- a list -/
  | lst (xs : List V)
  /-- a tuple (never changes) -/
  | tup (xs : List V)
  /-- a dict whose keys are ints and texts; one whose keys are tuples of ints and texts (the empty one is both) -/
  | dK (kvs : List (Key × V)) | dT (kvs : List (List Key × V))
  /-- a set of ints: its members, its size -/
  | set (S : Int → Bool) (n : Nat)
  /-- an instance of the class at C, its dict at dx, its attributes -/
  | ins (C dx : Addr) (fs : List (Str × V))
  /-- the dict of the instance at x -/
  | own (x : Addr)
  /-- the dict of an exception -/
  | xd (fs : List (Str × V))
  /-- a bound method, f of x -/
  | met (f x : Addr)
  /-- a range object lo, lo + 1, .. below hi -/
  | rng (lo hi : Int)
  /-- a thing that is known to the object (the script; a dict while a loop walks it): read, never written while it is so -/
  | frz (o : Obj) (u : HO)
  /-- a code object's table -/
  | tbl (ps : Array Value)
  /-- any other thing, by what is true of its one object (a def of one's own: SetO a S n := HO.ext fun h => ..) -/
  | ext (φ : Heap → Prop)

abbrev Hp := Addr → Option HO
def upd (H : Hp) (a : Addr) (o : HO) : Hp := fun b => if b = a then some o else H b
theorem upd_same {H : Hp} {a : Addr} {o : HO} : upd H a o a = some o := by unfold upd; rw [if_pos rfl]
theorem upd_ne {H : Hp} {a b : Addr} {o : HO} (h : b ≠ a) : upd H a o b = H b := by unfold upd; rw [if_neg h]
theorem upd_upd {H : Hp} {a : Addr} {o u : HO} : upd (upd H a o) a u = upd H a u := by
  funext b; unfold upd; split <;> rfl
/-- two objects of different content stand apart -/
theorem ne_of {H : Hp} {a b : Addr} {o u : HO} (h : H a = some o) (h' : H b = some u) (d : o ≠ u) : a ≠ b := by
  intro e; subst e; rw [h] at h'; exact d (Option.some.inj h')
theorem ne_of_none {H : Hp} {a b : Addr} {o : HO} (h : H a = some o) (h' : H b = none) : a ≠ b := by
  intro e; subst e; rw [h] at h'; cases h'

section
variable (P : Program) (w : World)
def ObjOk (H : Hp) (h : Heap) (a : Addr) : HO → Prop
  | .lst xs => xs.length ≤ sizeLine ∧ ∃ (its : List Value) (n : Nat), Vals xs its ∧ h.get? a = some { cls := .type "list", data := .seq its.toArray n }
  | .tup xs => xs.length ≤ sizeLine ∧ ∃ its : List Value, Vals xs its ∧ IsTup h a its.toArray
  | .dK kvs => kvs.length ≤ sizeLine ∧ (a == sysModules) = false ∧ ∃ vs, KV kvs vs ∧ h.DictOf (mixKind P w) a vs
  | .dT kvs => kvs.length ≤ sizeLine ∧ (a == sysModules) = false ∧ ∃ xs : List (List Key × Addr × Value),
      Paired (fun (p : List Key × V) (q : List Key × Addr × Value) => p.1 = q.1 ∧ H q.2.1 = some (.tup (p.1.map kV)) ∧ RelV p.2 q.2.2) kvs xs ∧
      ∃ o es ep, h.get? a = some o ∧ o.ExactDict ∧ o.data = .dict es ep ∧ es.toList = xs.map (entryOfKey (tupleKind (mixKind P w))) ∧ (xs.map (·.1)).Nodup
  | .set S n => h.SetOf (intKind P w) a S n
  | .ins C dx fs => H dx = some (.own a) ∧ fs.length ≤ 1000 ∧ dx ≠ a ∧ h.get? a = some (PySem.W.instObj C dx) ∧
      ∃ mA, h.Ns1 dx mA ∧ (∀ f, RelO (fs.lookup f) (mA f)) ∧ PySem.Within mA (fs.map (·.1))
  | .own _ => ∃ o, h.get? a = some o
  | .xd fs => ∃ mA, h.Ns1 a mA ∧ ∀ f, RelO (fs.lookup f) (mA f)
  | .rng lo hi => ∃ t u v, h.get? a = some { cls := .type "range", data := .fields #[.int lo t, .int hi u, .int 1 v] }
  | .frz o u => h.get? a = some o ∧ ObjOk H h a u
  | .tbl ps => h.get? a = some { cls := .none, data := .fields ps }
  | .met f x => h.get? a = some (PySem.W.methodObj (.ref f) (.ref x))
  | .ext φ => φ h ∧ (∃ o, h.get? a = some o) ∧ ∀ h1 h2 : Heap, φ h1 → (∀ o, h1.get? a = some o → h2.get? a = some o) → φ h2
/-- the abstract heap is held -/
def HOk (H : Hp) (h : Heap) : Prop := ∀ a o, H a = some o → ObjOk P w H h a o
end

section
variable {P : Program} {w : World} {H H' : Hp} {h h' : Heap} {a : Addr} {o : HO}
theorem ObjOk.lt (x : ObjOk P w H h a o) : a < h.objs.size := by
  cases o with
  | lst xs => obtain ⟨_, _, _, _, e⟩ := x; exact Heap.lt_size e
  | tup xs => obtain ⟨_, _, _, p⟩ := x; exact p.lt
  | dK kvs => obtain ⟨_, _, _, _, o, _, _, e, _⟩ := x; exact Heap.lt_size e
  | dT kvs => obtain ⟨_, _, _, _, o, _, _, e, _⟩ := x; exact Heap.lt_size e
  | set S n => obtain ⟨o, _, _, _, e, _⟩ := x; exact Heap.lt_size e
  | ins C dx fs => obtain ⟨_, _, _, e, _⟩ := x; exact Heap.lt_size e
  | own y => obtain ⟨_, e⟩ := x; exact Heap.lt_size e
  | xd fs => obtain ⟨_, ⟨_, _, _, e, _⟩, _⟩ := x; exact Heap.lt_size e
  | rng lo hi => obtain ⟨_, _, _, e⟩ := x; exact Heap.lt_size e
  | frz ob u => obtain ⟨e, _⟩ := x; exact Heap.lt_size e
  | tbl ps => exact Heap.lt_size (show h.get? a = some _ from x)
  | met f y => exact Heap.lt_size (show h.get? a = some _ from x)
  | ext φ => obtain ⟨_, ⟨_, e⟩, _⟩ := x; exact Heap.lt_size e
theorem Paired.mapP {α β : Type} {F G : α → β → Prop} : ∀ {l₁ : List α} {l₂ : List β}, Paired F l₁ l₂ → (∀ a b, F a b → G a b) → Paired G l₁ l₂
  | _, _, .nil, _ => .nil
  | _, _, .cons r t, f => .cons (f _ _ r) (Paired.mapP t f)
/-- what an object's description leans on: its own object, its own dict, the tuples -/
theorem ObjOk.stay (x : ObjOk P w H h a o) (k : ∀ b u, (b = a ∨ H b = some (.own a)) → h.get? b = some u → h'.get? b = some u)
    (ho : ∀ b, H b = some (.own a) → H' b = some (.own a)) (ht : ∀ b xs, H b = some (.tup xs) → H' b = some (.tup xs)) : ObjOk P w H' h' a o := by
  induction o with
  | lst xs => obtain ⟨z, its, n, r, e⟩ := x; exact ⟨z, its, n, r, k _ _ (.inl rfl) e⟩
  | tup xs => obtain ⟨z, its, r, ob, e, c⟩ := x; exact ⟨z, its, r, ob, k _ _ (.inl rfl) e, c⟩
  | dK kvs => obtain ⟨z, y, vs, r, ob, es, ep, e, c⟩ := x; exact ⟨z, y, vs, r, ob, es, ep, k _ _ (.inl rfl) e, c⟩
  | dT kvs =>
    obtain ⟨z, y, xs, r, ob, es, ep, e, c⟩ := x
    exact ⟨z, y, xs, Paired.mapP r fun p q z => ⟨z.1, ht _ _ z.2.1, z.2.2⟩, ob, es, ep, k _ _ (.inl rfl) e, c⟩
  | set S n => obtain ⟨ob, es, ep, t, e, c⟩ := x; exact ⟨ob, es, ep, t, k _ _ (.inl rfl) e, c⟩
  | ins C dx fs =>
    obtain ⟨d, z, ne, e, mA, ⟨od, es, ep, e2, c⟩, r⟩ := x
    exact ⟨ho _ d, z, ne, k _ _ (.inl rfl) e, mA, ⟨od, es, ep, k _ _ (.inr d) e2, c⟩, r⟩
  | own y => obtain ⟨ob, e⟩ := x; exact ⟨ob, k _ _ (.inl rfl) e⟩
  | xd fs => obtain ⟨mA, ⟨od, es, ep, e, c⟩, r⟩ := x; exact ⟨mA, ⟨od, es, ep, k _ _ (.inl rfl) e, c⟩, r⟩
  | rng lo hi => obtain ⟨t, u, v, e⟩ := x; exact ⟨t, u, v, k _ _ (.inl rfl) e⟩
  | frz ob u ih => obtain ⟨e, q⟩ := x; exact ⟨k _ _ (.inl rfl) e, ih q⟩
  | tbl ps =>
    have e : h.get? a = some { cls := .none, data := .fields ps } := x
    show h'.get? a = some { cls := .none, data := .fields ps }
    exact k a _ (.inl rfl) e
  | met f y =>
    have e : h.get? a = some (PySem.W.methodObj (.ref f) (.ref y)) := x
    show h'.get? a = some (PySem.W.methodObj (.ref f) (.ref y))
    exact k a _ (.inl rfl) e
  | ext φ => obtain ⟨p, ⟨o, e⟩, st⟩ := x; exact ⟨st _ _ p fun o q => k _ _ (.inl rfl) q, ⟨o, k _ _ (.inl rfl) e⟩, st⟩
theorem HOk.lt (x : HOk P w H h) (e : H a = some o) : a < h.objs.size := (x a o e).lt
theorem HOk.fresh (x : HOk P w H h) (e : h.objs.size ≤ a) : H a = none := by
  cases q : H a with
  | none => rfl
  | some u => exact absurd (Nat.lt_of_lt_of_le (x.lt q) e) (Nat.lt_irrefl _)
/-- every object of the heap is kept -/
theorem HOk.kept (x : HOk P w H h) (k : ∀ b u, h.get? b = some u → h'.get? b = some u) : HOk P w H h' := fun a o e =>
  (x a o e).stay (fun b u _ q => k b u q) (fun _ q => q) fun _ _ q => q
/-- a new object is laid and tracked -/
theorem HOk.laid (x : HOk P w H h) (k : ∀ b u, h.get? b = some u → h'.get? b = some u) (hp : h.objs.size ≤ a) (new : ObjOk P w (upd H a o) h' a o) : HOk P w (upd H a o) h' := fun b u e => by
  have hn := x.fresh hp
  by_cases hb : b = a
  · subst hb; rw [upd_same] at e; cases e; exact new
  · rw [upd_ne hb] at e
    exact (x b u e).stay (fun c v _ q => k c v q) (fun c q => by rw [upd_ne (ne_of_none q hn)]; exact q) fun c xs q => by rw [upd_ne (ne_of_none q hn)]; exact q
end

/-- what may be read as u: it is u, or a known u -/
def Rd (H : Hp) (a : Addr) (u : HO) : Prop := H a = some u ∨ ∃ o, H a = some (.frz o u)
theorem Rd.ok {P : Program} {w : World} {H : Hp} {h : Heap} {a : Addr} {u : HO} (r : Rd H a u) (x : HOk P w H h) : ObjOk P w H h a u := by
  rcases r with r | ⟨o, r⟩
  · exact x a u r
  · obtain ⟨_, q⟩ := x a _ r
    exact q
/-- what may be written -/
def Mut : Option HO → Prop
  | some (.lst _) => True
  | some (.dK _) => True
  | some (.dT _) => True
  | some (.set _ _) => True
  | some (.ins _ _ _) => True
  | some (.ext _) => True
  | _ => False
section
variable {P : Program} {w : World} {H : Hp} {h h' : Heap} {x e : Addr} {o' : HO}
/-- the object at e is changed: x itself, or the dict of the instance x -/
theorem HOk.write (ok : HOk P w H h) (mu : Mut (H x)) (he : e = x ∨ H e = some (.own x)) (k : ∀ b u, b ≠ e → h.get? b = some u → h'.get? b = some u) (heo : ∃ u, h'.get? e = some u)
    (new : ObjOk P w (upd H x o') h' x o') : HOk P w (upd H x o') h' := fun b u q => by
  have nown : ∀ c y, H c = some (.own y) → c ≠ x := fun c y r z => by subst z; rw [r] at mu; exact mu
  have ntup : ∀ c xs, H c = some (.tup xs) → c ≠ x := fun c xs r z => by subst z; rw [r] at mu; exact mu
  by_cases hb : b = x
  · subst hb; rw [upd_same] at q; cases q; exact new
  · rw [upd_ne hb] at q
    by_cases hbe : b = e
    · have q' : H b = some (.own x) := by
        rcases he with z | z
        · exact absurd (hbe.trans z) hb
        · rw [hbe]; exact z
      rw [q] at q'; cases q'
      obtain ⟨v, hv⟩ := heo
      exact ⟨v, by rw [hbe]; exact hv⟩
    · refine (ok b u q).stay (fun c v hc r => k c v ?_ r) (fun c r => by rw [upd_ne (nown c b r)]; exact r) fun c xs r => by rw [upd_ne (ntup c xs r)]; exact r
      rcases hc with rfl | hc
      · exact hbe
      · rintro rfl
        rcases he with z | z
        · exact nown c b hc z
        · rw [hc] at z; cases z; exact hb rfl
end

/-! ### kept unless tracked; of the frames at fs (the callers') the slots may change (an exception that passes writes there); of the records at ex (iterators) nothing is said -/
structure Un (fs ex : List Addr) (H H' : Hp) (h h' : Heap) : Prop where
  keep : ∀ b o, h.get? b = some o → H b = none → b ∉ fs → b ∉ ex → h'.get? b = some o
  slot : ∀ b o, h.get? b = some o → H b = none → b ∈ fs → b ∉ ex → ∃ sl, h'.get? b = some { o with slots := sl }
  free : ∀ b o, h.get? b = some o → H b = none → b ∉ ex → H' b = none
  there : ∀ b o, h.get? b = some o → b ∉ ex → ∃ o', h'.get? b = some o'
  tups : ∀ b xs, H b = some (.tup xs) → H' b = some (.tup xs)
  frzs : ∀ b o u, H b = some (.frz o u) → H' b = some (.frz o u)
  tbls : ∀ b ps, H b = some (.tbl ps) → ∃ more, H' b = some (.tbl (ps ++ more))
section
variable {fs fs' ex ex' : List Addr} {H H1 H2 : Hp} {h h1 h2 h' : Heap} {a x e : Addr} {o : HO}
theorem Un.any (u : Un fs ex H H1 h h1) {b : Addr} {ob : Obj} (q : h.get? b = some ob) (n : H b = none) (hx : b ∉ ex) : ∃ sl, h1.get? b = some { ob with slots := sl } := by
  by_cases hb : b ∈ fs
  · exact u.slot b ob q n hb hx
  · exact ⟨ob.slots, u.keep b ob q n hb hx⟩
theorem Un.kept (k : ∀ b u, h.get? b = some u → h'.get? b = some u) : Un fs ex H H h h' :=
  ⟨fun b ob q _ _ _ => k b ob q, fun b ob q _ _ _ => ⟨ob.slots, k b ob q⟩, fun _ _ _ n _ => n, fun b ob q _ => ⟨ob, k b ob q⟩, fun _ _ q => q, fun _ _ _ q => q, fun _ ps q => ⟨#[], by rw [q]; simp⟩⟩
theorem Un.refl : Un fs ex H H h h := Un.kept fun _ _ q => q
theorem Un.laid (k : ∀ b u, h.get? b = some u → h'.get? b = some u) (hp : h.objs.size ≤ a) (hn : H a = none) : Un fs ex H (upd H a o) h h' where
  keep := fun b u q _ _ _ => k b u q
  slot := fun b u q _ _ _ => ⟨u.slots, k b u q⟩
  free := fun b u q n _ => by rw [upd_ne (Nat.ne_of_lt (Nat.lt_of_lt_of_le (Heap.lt_size q) hp))]; exact n
  there := fun b u q _ => ⟨u, k b u q⟩
  tups := fun b xs q => by rw [upd_ne (ne_of_none q hn)]; exact q
  frzs := fun b u xs q => by rw [upd_ne (ne_of_none q hn)]; exact q
  tbls := fun b ps q => ⟨#[], by rw [upd_ne (ne_of_none q hn), q]; simp⟩
theorem Un.write (mu : Mut (H x)) (he : e = x ∨ H e = some (.own x)) (k : ∀ b u, b ≠ e → h.get? b = some u → h'.get? b = some u) (heo : ∃ u, h'.get? e = some u) : Un fs ex H (upd H x o) h h' := by
  have hx : ∀ b, H b = none → b ≠ x := fun b n z => by subst z; rw [n] at mu; exact mu
  have hb : ∀ b, H b = none → b ≠ e := fun b n z => by
    subst z
    rcases he with r | r
    · exact hx b n r
    · rw [n] at r; cases r
  have hm : ∀ b u, H b = some u → ¬ Mut (some u) → b ≠ x := fun b u q nm z => by subst z; rw [q] at mu; exact nm mu
  refine ⟨fun b u q n _ _ => k b u (hb b n) q, fun b u q n _ _ => ⟨u.slots, k b u (hb b n) q⟩, fun b u q n _ => by rw [upd_ne (hx b n)]; exact n, fun b u q _ => ?_,
    fun b xs q => by rw [upd_ne (hm b _ q fun z => z)]; exact q, fun b u xs q => by rw [upd_ne (hm b _ q fun z => z)]; exact q, fun b ps q => ⟨#[], by rw [upd_ne (hm b _ q fun z => z), q]; simp⟩⟩
  by_cases hbe : b = e
  · subst hbe; exact heo
  · exact ⟨u, k b u hbe q⟩
end

/-! ### the heap without what is tracked -/
def trk (h : Heap) (H : Hp) : List Addr := (List.range h.objs.size).filter fun a => (H a).isSome
def hidT (h : Heap) (H : Hp) : Heap := PySem.W.hideAll h (trk h H)
theorem hidT_size (h : Heap) (H : Hp) : (hidT h H).objs.size = h.objs.size := PySem.W.hideAll_size _ _
theorem hidT_get {h : Heap} {H : Hp} {b : Addr} {o : Obj} (e : h.get? b = some o) (n : H b = none) : (hidT h H).get? b = some o :=
  PySem.W.hideAll_get _ e fun hm => by
    have q : (H b).isSome = true := (List.mem_filter.mp hm).2
    rw [n] at q; simp at q
theorem of_hidT {h : Heap} {H : Hp} {b : Addr} {o : Obj} (e : (hidT h H).get? b = some o) : h.get? b = some o ∧ H b = none := by
  have e' : h.get? b = some o := PySem.W.of_hideAll (trk h H) e
  refine ⟨e', ?_⟩
  cases q : H b with
  | none => rfl
  | some x =>
    have hm : b ∈ trk h H := List.mem_filter.mpr ⟨List.mem_range.mpr (Heap.lt_size e'), by simp [q]⟩
    have z : (hidT h H).get? b = none := PySem.W.hideAll_none (trk h H) hm
    rw [z] at e; cases e

/-! ### OpenK's ledger, filled with every new object but one -/
def allNews (g h : Heap) (L : Addr) : List (Addr × Obj) := (List.range h.objs.size).filterMap fun a => if a = L ∨ (g.get? a).isSome = true then none else (h.get? a).map fun o => (a, o)
def rest (g h : Heap) (L d : Addr) : List (Addr × Obj) := (allNews g h L).filter fun p => decide (p.1 ≠ d)
end L2

namespace L2
open PySem PySem.Spec PyProof.Rows

/-- the module's facts, over the base: the heap at the law's entry without what is tracked there -/
structure Mod (K : PySem.W.Frag) (mg : Str → Option Value) (base : Heap) : Prop where
  kin : K.In base
  glob : base.Ns mainGlobals mg
  blt : ∃ mb, base.Ns builtinsNs mb ∧ ∀ x : Str, x ≠ "__name__" → mb x = bootBuiltins x
  nolimit : base.NoLimit

/-- the context: a def's body (or a comprehension's block) running. base: fixed through the whole law; s₀, H₀: the entry; outer: the frames whose slots others may change (a def's callers); stack: all frames that run;
   ex: iterators that were made ahead of the entry and are walked here (a comprehension's); fn: the names whose cells were made at the entry (a def: all; a comprehension's block: its own); calm: not within an except suite; pn: pins that every state bears; xe: what is wanted of an exception that leaves the code -/
structure Cx where
  prog : Program
  w : World
  K : PySem.W.Frag
  mg : Str → Option Value
  base : Heap
  A : Around
  N : List Str
  s_0 : Shared
  H_0 : Hp
  env : Env
  outer : List Env
  stack : List Env
  ex : List Addr
  fn : Str → Bool
  calm : Bool
  pn : List (Addr × Obj)
  xe : Value → Shared → Prop
/-- the callers' frames -/
def frs (l : List Env) : List Addr := l.filterMap (·.frame)
abbrev Cx.fs (X : Cx) : List Addr := frs X.outer

def Vis (sc : Scope) (x : Str) : Prop := sc.names.lookup x = some .local ∨ sc.names.lookup x = some .cell ∨ sc.names.lookup x = some .free
def Loc (sc : Scope) (x : Str) : Prop := sc.names.lookup x = some .local ∨ sc.names.lookup x = some .cell
def Look (env : Env) (h : Heap) (m : Str → Option Value) (x : Str) (u : Value) : Prop :=
  (env.kindOf x = some .local ∧ m x = some u) ∨ ((env.kindOf x = some .cell ∨ env.kindOf x = some .free) ∧ ∃ c, env.cells.lookup x = some c ∧ h.IsCell c (some u))

structure Cx.Ok (X : Cx) : Prop where
  mod : Mod X.K X.mg X.base
  kind : X.env.scope.kind = .function
  glob : X.env.globals = mainGlobals
  blt : X.env.builtins = builtinsNs
  above : X.s_0.heap.objs.size ≤ X.env.locals
  inj : ∀ x y c, X.env.cells.lookup x = some c → X.env.cells.lookup y = some c → x = y
  has : ∀ x, (X.env.kindOf x = some .cell ∨ X.env.kindOf x = some .free) → ∃ c, X.env.cells.lookup x = some c
  cab : ∀ x c, X.fn x = true → X.env.cells.lookup x = some c → X.s_0.heap.objs.size ≤ c
  hd : X.calm = true → X.A.handled = none
  frames : X.A.frames = some X.stack
  stk : X.stack = X.outer ∨ (X.stack = X.env :: X.outer ∧ X.env.frame = some X.env.locals)
  exf : ∀ b ∈ X.ex, b ≠ X.env.locals ∧ ∀ x c, X.env.cells.lookup x = some c → c ≠ b
  bs : ∀ b o, X.base.get? b = some o → X.s_0.heap.get? b = some o ∧ X.H_0 b = none
  bsz : X.base.objs.size ≤ X.s_0.heap.objs.size
  noex : ∀ b o, X.base.get? b = some o → b ∉ X.ex
  exfs : ∀ b ∈ X.ex, b ∉ X.fs
  funs : X.s_0.heap.FunFrames X.base X.outer
  frf : ∀ b ∈ X.fs, X.H_0 b = none

structure Inv (X : Cx) (pins : List (Addr × Obj)) (σ : List (Option V)) (H : Hp) (s : Shared) : Prop where
  ok : X.Ok
  os : s.os = X.s_0.os
  bare : AllBare s.gens
  base : Un X.fs X.ex X.H_0 H X.s_0.heap s.heap
  loc : ∃ m, s.heap.Ns X.env.locals m ∧ ∀ (i : Nat) (x : Str) (v : V), X.N[i]? = some x → σ[i]? = some (some v) → Vis X.env.scope x → ∃ u, RelV v u ∧ Look X.env s.heap m x u
  cell : ∀ x c, X.env.cells.lookup x = some c → ∃ v, s.heap.IsCell c v
  free : H X.env.locals = none
  freeC : ∀ x c, X.env.cells.lookup x = some c → H c = none
  pin : ∀ p ∈ X.pn ++ pins, s.heap.get? p.1 = some p.2 ∧ H p.1 = none ∧ p.1 ≠ X.env.locals ∧ p.1 ∉ X.fs ∧ ∀ v, p.2.data ≠ .cell v
  hok : HOk X.prog X.w H s.heap
  len : σ.length = X.N.length

section
variable {X : Cx} {pins : List (Addr × Obj)} {σ : List (Option V)} {H H' : Hp} {s : Shared} {h' : Heap}

theorem Cx.Ok.nofr (ok : X.Ok) {b : Addr} {o : Obj} (e : X.base.get? b = some o) : b ∉ X.fs := fun hb => by
  have := (ok.funs.mem hb).1
  rw [e] at this; cases this
theorem Inv.bs (I : Inv X pins σ H s) : ∀ b o, X.base.get? b = some o → s.heap.get? b = some o ∧ H b = none := fun b o e =>
  ⟨I.base.keep b o (I.ok.bs b o e).1 (I.ok.bs b o e).2 (I.ok.nofr e) (I.ok.noex b o e), I.base.free b o (I.ok.bs b o e).1 (I.ok.bs b o e).2 (I.ok.noex b o e)⟩
theorem Inv.bk (I : Inv X pins σ H s) : ∀ b o, X.base.get? b = some o → s.heap.get? b = some o := fun b o e => (I.bs b o e).1
theorem Inv.mod (I : Inv X pins σ H s) : Mod X.K X.mg X.base := I.ok.mod
theorem Inv.kIn (I : Inv X pins σ H s) : X.K.In s.heap := I.ok.mod.kin.keeps I.bk
/-- the frame over the base: for OpenK's rules (K.In X.base is I.mod.kin) -/
theorem Inv.fr (I : Inv X pins σ H s) : ∃ m, Fr X.base X.env.locals s.heap m :=
  let ⟨m, hn, _⟩ := I.loc
  ⟨m, hn, I.bk, Nat.le_trans I.ok.bsz I.ok.above⟩
theorem Inv.lt (I : Inv X pins σ H s) : X.env.locals < s.heap.objs.size := let ⟨_, hn, _⟩ := I.loc; hn.lt
theorem Inv.sz (I : Inv X pins σ H s) : X.s_0.heap.objs.size ≤ s.heap.objs.size := Nat.le_trans I.ok.above (Nat.le_of_lt I.lt)
theorem Inv.nofs (I : Inv X pins σ H s) {a : Addr} (h : s.heap.objs.size ≤ a) : a ∉ X.fs := fun hb => by
  obtain ⟨_, o, ho, _⟩ := I.ok.funs.mem hb
  exact absurd (Nat.lt_of_lt_of_le (Heap.lt_size ho) (Nat.le_trans I.sz h)) (Nat.lt_irrefl _)
theorem Inv.cne (I : Inv X pins σ H s) : ∀ x c, X.env.cells.lookup x = some c → c ≠ X.env.locals := fun x c e z => by
  obtain ⟨v, o, ho, hd⟩ := I.cell x c e
  obtain ⟨m, ⟨o', es, ep, ho', hd', _⟩, _⟩ := I.loc
  rw [z, ho'] at ho; cases ho; rw [hd'] at hd; cases hd
theorem Inv.funs (I : Inv X pins σ H s) : s.heap.FunFrames X.base X.outer := by
  have all : ∀ (l : List Env), (∀ b ∈ frs l, b ∈ X.fs) → X.s_0.heap.FunFrames X.base l → s.heap.FunFrames X.base l := by
    intro l
    induction l with
    | nil => intro _ _; trivial
    | cons env r ih =>
      intro hs hl
      obtain ⟨hk, ⟨L, o, hf, hn, ho, hd⟩, hr⟩ := hl
      have hL : L ∈ X.fs := hs L (by unfold frs; rw [List.filterMap_cons, hf]; exact List.mem_cons_self)
      obtain ⟨sl, e⟩ := I.base.slot L o ho (I.ok.frf L hL) hL fun z => I.ok.exfs L z hL
      exact ⟨hk, ⟨L, _, hf, hn, e, hd⟩, ih (fun b hb => hs b (by unfold frs; rw [List.filterMap_cons, hf]; exact List.mem_cons_of_mem _ hb)) hr⟩
  exact all X.outer (fun _ hb => hb) I.ok.funs

/-- the frames that run, for a call -/
theorem Inv.stack (I : Inv X pins σ H s) : s.heap.FunFrames X.base X.stack := by
  rcases I.ok.stk with e | ⟨e, hf⟩
  · rw [e]; exact I.funs
  · rw [e]
    obtain ⟨m, hn, _⟩ := I.loc
    refine .cons (by rw [I.ok.kind]; decide) hf hn ?_ I.funs
    exact Heap.get?_none_of_le (Nat.le_trans I.ok.bsz I.ok.above)
theorem Inv.stkSub (I : Inv X pins σ H s) : ∀ b ∈ frs X.stack, b ∈ X.env.locals :: X.fs := fun b hb => by
  rcases I.ok.stk with e | ⟨e, hf⟩
  · rw [e] at hb; exact List.mem_cons_of_mem _ hb
  · rw [e] at hb
    unfold frs at hb
    rw [List.filterMap_cons, hf] at hb
    exact hb
theorem Inv.stkFree (I : Inv X pins σ H s) : ∀ b ∈ frs X.stack, H b = none := fun b hb => by
  rcases List.mem_cons.mp (I.stkSub b hb) with e | hb
  · rw [e]; exact I.free
  · obtain ⟨_, o, ho, _⟩ := I.ok.funs.mem hb
    exact I.base.free b o ho (I.ok.frf b hb) fun z => I.ok.exfs b z hb

/-- THE STEP: the untracked objects but the frame and the records at ch are kept (the callers' frames up to slots), the frame's map is kept, the new abstract heap is held -/
theorem Inv.step {g' : Array GenState} {t' : Nat} {d' : Drawn} {ch : List Addr} (I : Inv X pins σ H s)
    (hch : ∀ b ∈ ch, (b ∈ X.ex ∨ X.s_0.heap.objs.size ≤ b) ∧ b ≠ X.env.locals ∧ (∀ x c, X.env.cells.lookup x = some c → c ≠ b) ∧ ∀ p ∈ X.pn ++ pins, p.1 ≠ b)
    (keep : ∀ b o, b ≠ X.env.locals → b ∉ X.fs → b ∉ ch → s.heap.get? b = some o → H b = none → h'.get? b = some o)
    (slot : ∀ b o, b ≠ X.env.locals → b ∈ X.fs → b ∉ ch → s.heap.get? b = some o → H b = none → ∃ sl, h'.get? b = some { o with slots := sl }) (free : ∀ b o, b ∉ ch → s.heap.get? b = some o → H b = none → H' b = none)
    (there : ∀ b o, b ∉ ch → s.heap.get? b = some o → ∃ o', h'.get? b = some o')
    (tups : ∀ b xs, H b = some (.tup xs) → H' b = some (.tup xs)) (frzs : ∀ b o u, H b = some (.frz o u) → H' b = some (.frz o u)) (tbls : ∀ b ps, H b = some (.tbl ps) → ∃ more, H' b = some (.tbl (ps ++ more)))
    (ns : ∀ m, s.heap.Ns X.env.locals m → h'.Ns X.env.locals m) (hok : HOk X.prog X.w H' h') (hg : AllBare g') :
    Inv X pins σ H' { s with heap := h', gens := g', drawn := d', toks := t' } := by
  have neL : ∀ b o, X.s_0.heap.get? b = some o → b ≠ X.env.locals := fun b o e => Nat.ne_of_lt (Nat.lt_of_lt_of_le (Heap.lt_size e) I.ok.above)
  have neC : ∀ b o, X.s_0.heap.get? b = some o → b ∉ X.ex → b ∉ ch := fun b o e hx hb => by
    rcases (hch b hb).1 with z | z
    · exact hx z
    · exact absurd (Nat.lt_of_lt_of_le (Heap.lt_size e) z) (Nat.lt_irrefl _)
  have cellK : ∀ x c, X.env.cells.lookup x = some c → ∀ v, s.heap.IsCell c v → h'.IsCell c v := fun x c e v ⟨o, ho, hd⟩ => by
    have nch : c ∉ ch := fun z => (hch c z).2.2.1 x c e rfl
    by_cases hc : c ∈ X.fs
    · obtain ⟨sl, q⟩ := slot c o (I.cne x c e) hc nch ho (I.freeC x c e)
      exact ⟨_, q, hd⟩
    · exact ⟨o, keep c o (I.cne x c e) hc nch ho (I.freeC x c e), hd⟩
  refine ⟨I.ok, I.os, hg, ⟨fun b o e n hb hx => ?_, fun b o e n hb hx => ?_, fun b o e n hx => ?_, fun b o e hx => ?_, fun b xs e => tups b xs (I.base.tups b xs e), fun b o xs e => frzs b o xs (I.base.frzs b o xs e), fun b ps e => ?_⟩, ?_, fun x c e => ?_, ?_, fun x c e => ?_, fun p hp => ?_, hok, I.len⟩
  · exact keep b o (neL b o e) hb (neC b o e hx) (I.base.keep b o e n hb hx) (I.base.free b o e n hx)
  · obtain ⟨sl, e1⟩ := I.base.slot b o e n hb hx
    obtain ⟨sl', e2⟩ := slot b _ (neL b o e) hb (neC b o e hx) e1 (I.base.free b o e n hx)
    exact ⟨sl', e2⟩
  · obtain ⟨o', e1⟩ := I.base.there b o e hx
    exact free b o' (neC b o e hx) e1 (I.base.free b o e n hx)
  · obtain ⟨o', e1⟩ := I.base.there b o e hx
    exact there b o' (neC b o e hx) e1
  · obtain ⟨m1, e1⟩ := I.base.tbls b ps e
    obtain ⟨m2, e2⟩ := tbls b _ e1
    exact ⟨m1 ++ m2, by rw [e2, Array.append_assoc]⟩
  · obtain ⟨m, hn, hl⟩ := I.loc
    refine ⟨m, ns m hn, fun i x v e1 e2 e3 => ?_⟩
    obtain ⟨u, r, l⟩ := hl i x v e1 e2 e3
    refine ⟨u, r, ?_⟩
    rcases l with l | ⟨k, c, e, z⟩
    · exact .inl l
    · exact .inr ⟨k, c, e, cellK x c e _ z⟩
  · obtain ⟨v, z⟩ := I.cell x c e
    exact ⟨v, cellK x c e v z⟩
  · obtain ⟨m, ⟨o, _, _, ho, _⟩, _⟩ := I.loc
    exact free _ o (fun z => (hch _ z).2.1 rfl) ho I.free
  · obtain ⟨v, o, ho, hd⟩ := I.cell x c e
    exact free c o (fun z => (hch c z).2.2.1 x c e rfl) ho (I.freeC x c e)
  · obtain ⟨e, n, ne, nf, d⟩ := I.pin p hp
    have nch : p.1 ∉ ch := fun z => (hch p.1 z).2.2.2 p hp rfl
    exact ⟨keep p.1 p.2 ne nf nch e n, free p.1 p.2 nch e n, ne, nf, d⟩
/-- .. where the frame's own object is kept too -/
theorem Inv.un {t' : Nat} (I : Inv X pins σ H s) (u : Un X.fs [] H H' s.heap h') (hok : HOk X.prog X.w H' h') : Inv X pins σ H' { s with heap := h', toks := t' } := by
  obtain ⟨m, ⟨o, es, ep, ho, r⟩, _⟩ := id I.loc
  obtain ⟨sl, hL⟩ := u.any ho I.free (by simp)
  exact I.step (g' := s.gens) (d' := s.drawn) (ch := []) (fun _ z => nomatch z) (fun b o _ hb _ e n => u.keep b o e n hb (by simp)) (fun b o _ hb _ e n => u.slot b o e n hb (by simp)) (fun b o _ e n => u.free b o e n (by simp)) (fun b o _ e => u.there b o e (by simp)) u.tups u.frzs u.tbls (fun m' hm => by
    obtain ⟨o', es', ep', ho', r'⟩ := hm
    rw [ho] at ho'; cases ho'
    exact ⟨_, es', ep', hL, r'⟩) hok I.bare
/-- behind a call (or a comprehension's block): the slots of this frame may have changed too, the records at ch may have turned -/
theorem Inv.call {g' : Array GenState} {t' : Nat} {d' : Drawn} {ch : List Addr} (I : Inv X pins σ H s) (u : Un (frs X.stack) ch H H' s.heap h') (hok : HOk X.prog X.w H' h') (hg : AllBare g')
    (hch : ∀ b ∈ ch, (b ∈ X.ex ∨ X.s_0.heap.objs.size ≤ b) ∧ b ≠ X.env.locals ∧ (∀ x c, X.env.cells.lookup x = some c → c ≠ b) ∧ ∀ p ∈ X.pn ++ pins, p.1 ≠ b) :
    Inv X pins σ H' { s with heap := h', gens := g', drawn := d', toks := t' } := by
  obtain ⟨m, ⟨o, es, ep, ho, r⟩, _⟩ := id I.loc
  obtain ⟨sl, hL⟩ := u.any ho I.free fun z => (hch _ z).2.1 rfl
  exact I.step (ch := ch) hch (fun b o hL hb hc e n => u.keep b o e n (fun z => (List.mem_cons.mp (I.stkSub b z)).elim hL hb) hc) (fun b o _ _ hc e n => u.any e n hc) (fun b o hc e n => u.free b o e n hc) (fun b o hc e => u.there b o e hc) u.tups u.frzs u.tbls (fun m' hm => by
    obtain ⟨o', es', ep', ho', r'⟩ := hm
    rw [ho] at ho'; cases ho'
    exact ⟨_, es', ep', hL, r'⟩) hok hg
/-- an untracked record of ours (an iterator) has turned -/
theorem Inv.turned {t' : Nat} {it : Addr} (I : Inv X pins σ H s) (k : ∀ b o, b ≠ it → s.heap.get? b = some o → h'.get? b = some o) (hn : H it = none) (hL : it ≠ X.env.locals)
    (h1 : it ∈ X.ex ∨ X.s_0.heap.objs.size ≤ it) (h2 : ∀ x c, X.env.cells.lookup x = some c → c ≠ it) (h3 : ∀ p ∈ X.pn ++ pins, p.1 ≠ it) : Inv X pins σ H { s with heap := h', toks := t' } := by
  have nit : ∀ b u, H b = some u → b ≠ it := fun b u e z => by rw [z, hn] at e; cases e
  refine I.step (g' := s.gens) (d' := s.drawn) (ch := [it]) (fun b hb => ?_) (fun b o _ _ hc e _ => k b o (fun z => hc (by simp [z])) e) (fun b o _ _ hc e _ => ⟨o.slots, k b o (fun z => hc (by simp [z])) e⟩) (fun _ _ _ _ n => n)
    (fun b o hc e => ⟨o, k b o (fun z => hc (by simp [z])) e⟩) (fun _ _ e => e) (fun _ _ _ e => e) (fun b ps e => ⟨#[], by rw [e]; simp⟩) (fun m hm => ?_) (fun b u e => ?_) I.bare
  · have e : b = it := by simpa using hb
    subst e
    exact ⟨h1, hL, h2, h3⟩
  · obtain ⟨o, es, ep, ho, r⟩ := hm
    exact ⟨o, es, ep, k _ o (Ne.symm hL) ho, r⟩
  · refine (I.hok b u e).stay (fun c v hc q => k c v ?_ q) (fun _ q => q) fun _ _ q => q
    rcases hc with z | z
    · rw [z]; exact nit b u e
    · exact nit c _ z
theorem Inv.tok (I : Inv X pins σ H s) (t : Nat) : Inv X pins σ H { s with toks := t } := I.un (h' := s.heap) (t' := t) Un.refl I.hok
/-- all objects kept -/
theorem Inv.kept {t' : Nat} (I : Inv X pins σ H s) (k : ∀ b u, s.heap.get? b = some u → h'.get? b = some u) : Inv X pins σ H { s with heap := h', toks := t' } := I.un (Un.kept k) (I.hok.kept k)
/-- a new object laid and tracked -/
theorem Inv.laid {a : Addr} {o : HO} {t' : Nat} (I : Inv X pins σ H s) (k : ∀ b u, s.heap.get? b = some u → h'.get? b = some u) (hp : s.heap.objs.size ≤ a) (new : ObjOk X.prog X.w (upd H a o) h' a o) :
    Inv X pins σ (upd H a o) { s with heap := h', toks := t' } := I.un (Un.laid k hp (I.hok.fresh hp)) (I.hok.laid k hp new)
/-- an object written -/
theorem Inv.write {x e : Addr} {o : HO} {t' : Nat} (I : Inv X pins σ H s) (mu : Mut (H x)) (he : e = x ∨ H e = some (.own x)) (k : ∀ b u, b ≠ e → s.heap.get? b = some u → h'.get? b = some u) (heo : ∃ u, h'.get? e = some u)
    (new : ObjOk X.prog X.w (upd H x o) h' x o) : Inv X pins σ (upd H x o) { s with heap := h', toks := t' } := I.un (Un.write mu he k heo) (I.hok.write mu he k heo new)
/-- forgetting slots, pins -/
theorem Inv.weak {σ' : List (Option V)} (I : Inv X pins σ H s) (hl : σ'.length = σ.length) (w : ∀ (i : Nat) v, σ'[i]? = some (some v) → σ[i]? = some (some v)) : Inv X pins σ' H s :=
  ⟨I.ok, I.os, I.bare, I.base, let ⟨m, hn, hl'⟩ := I.loc; ⟨m, hn, fun i x v e1 e2 e3 => hl' i x v e1 (w i v e2) e3⟩, I.cell, I.free, I.freeC, I.pin, I.hok, hl.trans I.len⟩
theorem Inv.pins_of {pins' : List (Addr × Obj)} (I : Inv X pins σ H s) (h : ∀ p ∈ pins', s.heap.get? p.1 = some p.2 ∧ H p.1 = none ∧ p.1 ≠ X.env.locals ∧ p.1 ∉ X.fs ∧ ∀ v, p.2.data ≠ .cell v) : Inv X pins' σ H s :=
  ⟨I.ok, I.os, I.bare, I.base, I.loc, I.cell, I.free, I.freeC, fun p hp => (List.mem_append.mp hp).elim (fun z => I.pin p (List.mem_append_left _ z)) (h p), I.hok, I.len⟩

theorem nodup_ix {N : List Str} (hN : N.Nodup) {i j : Nat} {x : Str} (a : N[i]? = some x) (b : N[j]? = some x) : i = j := by
  obtain ⟨h1, e1⟩ := List.getElem?_eq_some_iff.mp a
  obtain ⟨h2, e2⟩ := List.getElem?_eq_some_iff.mp b
  exact (List.getElem_inj hN).mp (e1.trans e2.symm)

/-- a name is stored; what changed -/
theorem store_ok2 {M : Model} {A : Around} {E : Value → Shared → Prop} {i : Nat} {x : Str} {v : V} {u : Value} {Q : Unit → Shared → Prop} (I : Inv X pins σ H s) (hN : X.N.Nodup) (hi : X.N[i]? = some x) (hx : Loc X.env.scope x) (r : RelV v u)
    (h : ∀ s', Inv X pins (σ.set i (some v)) H s' → (∃ a, Heap.SameBut a s.heap s'.heap ∧ (a = X.env.locals ∨ X.env.cells.lookup x = some a)) → Q () s') (hf : X.fn x = true ∨ X.env.scope.names.lookup x = some .local := by first | exact .inl rfl | exact .inr rfl | assumption) : wpAny M A (storeName X.env x u) Q E s := by
  obtain ⟨m, hn, hl⟩ := id I.loc
  have hcls : (X.env.scope.kind == .class || (X.env.scope.kind == .module && X.env.locals != X.env.globals)) = false := by rw [I.ok.kind]; rfl
  have hiσ : i < σ.length := by rw [I.len]; exact (List.getElem?_eq_some_iff.mp hi).1
  have cne := I.cne
  have tracked : ∀ {a : Addr} {h' : Heap}, (∃ o, s.heap.get? a = some o ∧ H a = none) → Heap.SameBut a s.heap h' → HOk X.prog X.w H h' := fun {a h'} ha hs b ob e => by
    obtain ⟨_, _, hfree⟩ := ha
    refine (I.hok b ob e).stay (fun c w' hc q => (hs.2 c ?_).trans q) (fun _ q => q) fun _ _ q => q
    rintro rfl
    rcases hc with rfl | hc
    · rw [hfree] at e; cases e
    · rw [hfree] at hc; cases hc
  rcases hx with hk | hk
  · refine wpAny_storeName_local hk hn (fun h' hn' hs => ?_) hcls
    obtain ⟨oL, _, _, hoL, _⟩ := id hn
    refine h _ ⟨I.ok, I.os, I.bare, ⟨fun b o e n hb hx => ?_, fun b o e n hb hx => ?_, I.base.free, fun b o e hx => ?_, I.base.tups, I.base.frzs, I.base.tbls⟩, ⟨_, hn', fun j y v' e1 e2 e3 => ?_⟩, fun y c e => ?_, I.free, I.freeC, fun p hp => ?_, tracked ⟨oL, hoL, I.free⟩ hs, by simpa using I.len⟩ ⟨_, hs, .inl rfl⟩
    · exact (hs.2 b (Nat.ne_of_lt (Nat.lt_of_lt_of_le (Heap.lt_size e) I.ok.above))).trans (I.base.keep b o e n hb hx)
    · obtain ⟨sl, e1⟩ := I.base.slot b o e n hb hx
      exact ⟨sl, (hs.2 b (Nat.ne_of_lt (Nat.lt_of_lt_of_le (Heap.lt_size e) I.ok.above))).trans e1⟩
    · obtain ⟨o', e1⟩ := I.base.there b o e hx
      exact ⟨o', (hs.2 b (Nat.ne_of_lt (Nat.lt_of_lt_of_le (Heap.lt_size e) I.ok.above))).trans e1⟩
    · by_cases hj : j = i
      · subst hj
        rw [hi] at e1; cases e1
        rw [List.getElem?_set_self hiσ] at e2
        cases e2
        exact ⟨u, r, .inl ⟨hk, by simp⟩⟩
      · rw [List.getElem?_set_ne (Ne.symm hj)] at e2
        obtain ⟨u', r', q⟩ := hl j y v' e1 e2 e3
        refine ⟨u', r', ?_⟩
        rcases q with ⟨k, e⟩ | ⟨k, c, e, z⟩
        · refine .inl ⟨k, ?_⟩
          have : y ≠ x := fun e => hj (nodup_ix hN e1 (e ▸ hi))
          simp [this, e]
        · exact .inr ⟨k, c, e, z.sameBut hs (cne y c e)⟩
    · obtain ⟨w', z⟩ := I.cell y c e
      exact ⟨w', z.sameBut hs (cne y c e)⟩
    · obtain ⟨e, n, ne, nf, d⟩ := I.pin p hp
      exact ⟨(hs.2 p.1 ne).trans e, n, ne, nf, d⟩
  · have hfn : X.fn x = true := by
      rcases hf with z | z
      · exact z
      · rw [z] at hk; cases hk
    obtain ⟨c, hc⟩ := I.ok.has x (.inl hk)
    obtain ⟨w', z⟩ := I.cell x c hc
    refine wpAny_storeName_cell I.ok.kind hk hc z (fun h' hc' hs => ?_)
    obtain ⟨oc, hoc, hocd⟩ := id z
    refine h { s with heap := h' } ⟨I.ok, I.os, I.bare, ⟨fun b o e n hb hx => ?_, fun b o e n hb hx => ?_, I.base.free, fun b o e hx => ?_, I.base.tups, I.base.frzs, I.base.tbls⟩, ⟨m, hn.sameBut hs (Ne.symm (cne x c hc)), fun j y v' e1 e2 e3 => ?_⟩, fun y c' e => ?_, I.free, I.freeC, fun p hp => ?_, tracked ⟨oc, hoc, I.freeC x c hc⟩ hs, by simpa using I.len⟩ ⟨c, hs, .inr hc⟩
    · exact (hs.2 b (Nat.ne_of_lt (Nat.lt_of_lt_of_le (Heap.lt_size e) (I.ok.cab x c hfn hc)))).trans (I.base.keep b o e n hb hx)
    · obtain ⟨sl, e1⟩ := I.base.slot b o e n hb hx
      exact ⟨sl, (hs.2 b (Nat.ne_of_lt (Nat.lt_of_lt_of_le (Heap.lt_size e) (I.ok.cab x c hfn hc)))).trans e1⟩
    · obtain ⟨o', e1⟩ := I.base.there b o e hx
      exact ⟨o', (hs.2 b (Nat.ne_of_lt (Nat.lt_of_lt_of_le (Heap.lt_size e) (I.ok.cab x c hfn hc)))).trans e1⟩
    · by_cases hj : j = i
      · subst hj
        rw [hi] at e1; cases e1
        rw [List.getElem?_set_self hiσ] at e2
        cases e2
        exact ⟨u, r, .inr ⟨.inl hk, c, hc, hc'⟩⟩
      · rw [List.getElem?_set_ne (Ne.symm hj)] at e2
        obtain ⟨u', r', q⟩ := hl j y v' e1 e2 e3
        refine ⟨u', r', ?_⟩
        rcases q with q | ⟨k, c', e, z'⟩
        · exact .inl q
        · refine .inr ⟨k, c', e, z'.sameBut hs ?_⟩
          rintro rfl
          exact hj (nodup_ix hN e1 (I.ok.inj _ _ _ e hc ▸ hi))
    · by_cases hcc : c' = c
      · subst hcc; exact ⟨_, hc'⟩
      · obtain ⟨w2, z2⟩ := I.cell y c' e
        exact ⟨w2, z2.sameBut hs hcc⟩
    · obtain ⟨e, n, ne, nf, d⟩ := I.pin p hp
      refine ⟨(hs.2 p.1 ?_).trans e, n, ne, nf, d⟩
      intro q
      rw [q, hoc] at e
      have q' : oc = p.2 := Option.some.inj e
      exact d w' (by rw [← q']; exact hocd)
theorem store_ok {M : Model} {A : Around} {E : Value → Shared → Prop} {i : Nat} {x : Str} {v : V} {u : Value} {Q : Unit → Shared → Prop} (I : Inv X pins σ H s) (hN : X.N.Nodup) (hi : X.N[i]? = some x) (hx : Loc X.env.scope x) (r : RelV v u)
    (h : ∀ s', Inv X pins (σ.set i (some v)) H s' → Q () s') (hf : X.fn x = true ∨ X.env.scope.names.lookup x = some .local := by first | exact .inl rfl | exact .inr rfl | assumption) : wpAny M A (storeName X.env x u) Q E s :=
  store_ok2 I hN hi hx r (fun s' I' _ => h s' I') hf
/-- behind a call or a block, the state as it is -/
theorem Inv.call' {s' : Shared} {ch : List Addr} (I : Inv X pins σ H s) (ho : s'.os = s.os) (u : Un (frs X.stack) ch H H' s.heap s'.heap) (hok : HOk X.prog X.w H' s'.heap) (hg : AllBare s'.gens)
    (hch : ∀ b ∈ ch, (b ∈ X.ex ∨ X.s_0.heap.objs.size ≤ b) ∧ b ≠ X.env.locals ∧ (∀ x c, X.env.cells.lookup x = some c → c ≠ b) ∧ ∀ p ∈ X.pn ++ pins, p.1 ≠ b) : Inv X pins σ H' s' := by
  obtain ⟨h', g', d', t', o'⟩ := s'
  have e : o' = s.os := ho
  subst e
  exact I.call (g' := g') (t' := t') (d' := d') u hok hg hch
end

/-! ### the judgements -/
/-- an exception: its class, its own dict's address (where it has one), the abstract heap behind it -/
abbrev XK := Value → Option Addr → Hp → Prop
abbrev St := List (Option V)
abbrev VK := V → Hp → Prop
/-- an expression's reading; a test's; an argument list's -/
abbrev TE := St → Hp → VK → Prop
abbrev TT := St → Hp → (Bool → Hp → Prop) → Prop
abbrev TA := St → Hp → (List V → Hp → Prop) → Prop
/-- what is wanted behind a statement -/
structure Ends where
  nx : St → Hp → Prop
  rt : VK
  bk : St → Hp → Prop := fun _ _ => False
  ct : St → Hp → Prop := fun _ _ => False
abbrev TS := Ends → St → Hp → Prop

def EP (X : Cx) (pins : List (Addr × Obj)) (σ : St) (Q : VK) (u : Value) (s' : Shared) : Prop := ∃ v H', Inv X pins σ H' s' ∧ RelV v u ∧ Q v H'
def TP (X : Cx) (pins : List (Addr × Obj)) (σ : St) (Q : Bool → Hp → Prop) (b : Bool) (s' : Shared) : Prop := ∃ H', Inv X pins σ H' s' ∧ Q b H'
def AP (X : Cx) (pins : List (Addr × Obj)) (σ : St) (Q : List V → Hp → Prop) (us : List Value) (s' : Shared) : Prop := ∃ vs H', Inv X pins σ H' s' ∧ Vals vs us ∧ Q vs H'
def SP (X : Cx) (pins : List (Addr × Obj)) (D : Ends) (f : Flow) (s' : Shared) : Prop :=
  match f with
  | .next => ∃ σ' H', Inv X pins σ' H' s' ∧ D.nx σ' H'
  | .brk => ∃ σ' H', Inv X pins σ' H' s' ∧ D.bk σ' H'
  | .cont => ∃ σ' H', Inv X pins σ' H' s' ∧ D.ct σ' H'
  | .ret u => ∃ v σ' H', Inv X pins σ' H' s' ∧ RelV v u ∧ D.rt v H'

def PE (X : Cx) (e : Expr) (t : TE) : Prop :=
  ∀ (pins : List (Addr × Obj)) (s : Shared) (σ : St) (H : Hp) (Q : VK), Inv X pins σ H s → t σ H Q → wpAny (model X.prog X.w) X.A (eval e X.env) (EP X pins σ Q) X.xe s
def PT (X : Cx) (e : Expr) (t : TT) : Prop :=
  ∀ (pins : List (Addr × Obj)) (s : Shared) (σ : St) (H : Hp) (Q : Bool → Hp → Prop), Inv X pins σ H s → t σ H Q → wpAny (model X.prog X.w) X.A (isTrue e X.env (eval e X.env)) (TP X pins σ Q) X.xe s
/-- a test whatever its 'whole' is (and, or) -/
def PW (X : Cx) (e : Expr) (t : TT) : Prop :=
  ∀ (whole : Sem Value) (pins : List (Addr × Obj)) (s : Shared) (σ : St) (H : Hp) (Q : Bool → Hp → Prop), Inv X pins σ H s → t σ H Q → wpAny (model X.prog X.w) X.A (isTrue e X.env whole) (TP X pins σ Q) X.xe s
theorem PW.pt {X : Cx} {e : Expr} {t : TT} (h : PW X e t) : PT X e t := h _
/-- an argument list (no star), from the left -/
def PA (X : Cx) (es : List Expr) (t : TA) : Prop :=
  ∀ (pos : Pos) (pins : List (Addr × Obj)) (s : Shared) (σ : St) (H : Hp) (Q : List V → Hp → Prop), Inv X pins σ H s → t σ H Q → wpAny (model X.prog X.w) X.A (spliced (backTo pos (starEach es X.env))) (AP X pins σ Q) X.xe s
def PS (X : Cx) (st : Stmt) (t : TS) : Prop :=
  ∀ (pins : List (Addr × Obj)) (s : Shared) (σ : St) (H : Hp) (D : Ends), Inv X pins σ H s → t D σ H → wpAny (model X.prog X.w) X.A (exec st X.env) (SP X pins D) X.xe s
def PSs (X : Cx) (st : List Stmt) (t : TS) : Prop :=
  ∀ (pins : List (Addr × Obj)) (s : Shared) (σ : St) (H : Hp) (D : Ends), Inv X pins σ H s → t D σ H → wpAny (model X.prog X.w) X.A (execs st X.env) (SP X pins D) X.xe s
/-- weaken the end -/
theorem thn {α : Type} {t : Sem α} {Q Q' : α → Shared → Prop} {M : Model} {A : Around} {E : Value → Shared → Prop} {s : Shared} (h : wpAny M A t Q E s) (hQ : ∀ a s, Q a s → Q' a s) : wpAny M A t Q' E s := wpAny_mono h hQ fun _ _ x => x
end L2

namespace L2
open PySem PySem.Spec PyProof.Rows
section
variable {X : Cx}

/-- two expressions in a row -/
theorem bin {a b : Expr} {ta tb : TE} (ha : PE X a ta) (hb : PE X b tb) {pins : List (Addr × Obj)} {s : Shared} {σ : St} {H : Hp} {R : V → V → Hp → Prop} (I : Inv X pins σ H s) (h : ta σ H fun x H1 => tb σ H1 fun y H2 => R x y H2)
    {α : Type} {Q : α → Shared → Prop} {f : Value → Value → Sem α}
    (hf : ∀ v u s2 x y H2, Inv X pins σ H2 s2 → RelV x v → RelV y u → R x y H2 → wpAny (model X.prog X.w) X.A (f v u) Q X.xe s2) :
    wpAny (model X.prog X.w) X.A (eval a X.env) (fun v s₁ => wpAny (model X.prog X.w) X.A (eval b X.env) (fun u s₂ => wpAny (model X.prog X.w) X.A (f v u) Q X.xe s₂) X.xe s₁) X.xe s := by
  refine thn (ha pins s σ H _ I h) fun v s1 ⟨x, H1, I1, r1, q1⟩ => ?_
  refine thn (hb pins s1 σ H1 _ I1 q1) fun u s2 ⟨y, H2, I2, r2, q2⟩ => ?_
  exact hf v u s2 x y H2 I2 r1 r2 q2

/-! ### names and constants -/
def tVar (i : Nat) : TE := fun σ H Q => ∃ v, σ[i]? = some (some v) ∧ Q v H
def tC (v : V) : TE := fun _ H Q => Q v H
theorem pe_var {i : Nat} {x : Str} {pos : Pos} (hN : X.N[i]? = some x) (hv : Vis X.env.scope x) (hd : (x == ("__debug__" : Str)) = false := by decide) (hcd : (x == ("__classdict__" : Str)) = false := by decide) : PE X (.Name x pos) (tVar i) := by
  intro pins s σ H Q I h
  obtain ⟨v, e, h⟩ := h
  obtain ⟨m, hn, hl⟩ := I.loc
  obtain ⟨u, r, l⟩ := hl i x v hN e hv
  have fin : EP X pins σ Q u s := ⟨v, H, I, r, h⟩
  rcases l with ⟨hk, hm⟩ | ⟨hk, c, hc, hcell⟩
  · exact wpAny_Name (wpAny_loadName_local I.ok.kind hk hn hm fin) hd
  · rcases hk with hk | hk
    · exact wpAny_Name (wpAny_loadName_cell I.ok.kind hk hc hcell fin) hd
    · exact wpAny_Name (wpAny_loadName_free I.ok.kind hk hc hcell fin hcd) hd
theorem pe_int {i j pos} : PE X (.Constant (.int i) j pos) (tC (.int i)) := fun _ _ _ H _ I h => wpAny_Constant_int ⟨.int i, H, I.tok _, ⟨_, rfl⟩, h⟩
theorem pe_bl {b j pos} : PE X (.Constant (.bool b) j pos) (tC (.bl b)) := fun _ _ _ H _ I h => Constant_bool ⟨.bl b, H, I, rfl, h⟩
/-- a global name of the def -/
def Gl (X : Cx) (x : Str) : Prop := X.env.kindOf x = some .globalImplicit
theorem ld_glob {E : Value → Shared → Prop} {pins : List (Addr × Obj)} {s : Shared} {σ : St} {H : Hp} {x : Str} {u : Value} {pos : Pos} {Q : Value → Shared → Prop} (I : Inv X pins σ H s) (hg : Gl X x) (hm : X.mg x = some u) (h : Q u s)
    (hd : (x == ("__debug__" : Str)) = false := by decide) : wpAny (model X.prog X.w) X.A (eval (.Name x pos) X.env) Q E s :=
  Calls.Name_function_global I.ok.kind hg (Calls.loadGlobal_global (by rw [I.ok.glob]; exact I.mod.glob.keeps I.bk) hm h) hd
theorem ld_blt {E : Value → Shared → Prop} {pins : List (Addr × Obj)} {s : Shared} {σ : St} {H : Hp} {x : Str} {u : Value} {pos : Pos} {Q : Value → Shared → Prop} (I : Inv X pins σ H s) (hg : Gl X x) (hm : X.mg x = none) (hv : bootBuiltins x = some u) (h : Q u s)
    (hn : x ≠ "__name__" := by decide) (hd : (x == ("__debug__" : Str)) = false := by decide) : wpAny (model X.prog X.w) X.A (eval (.Name x pos) X.env) Q E s := by
  obtain ⟨mb, h1, h2⟩ := I.mod.blt
  exact Calls.Name_function_global I.ok.kind hg (Calls.loadGlobal_builtin (by rw [I.ok.glob]; exact I.mod.glob.keeps I.bk) hm (by rw [I.ok.blt]; exact h1.keeps I.bk) ((h2 x hn).trans hv) h) hd
/-- a module's constant, a class, a function, as a value -/
theorem pe_glob {x : Str} {v : V} {u : Value} {pos : Pos} (hg : Gl X x) (hm : X.mg x = some u) (r : RelV v u) (hd : (x == ("__debug__" : Str)) = false := by decide) : PE X (.Name x pos) (tC v) :=
  fun _ _ _ H _ I h => ld_glob I hg hm ⟨v, H, I, r, h⟩ hd
/-! ### arithmetic -/
/-- two ints -/
def t2I (ta tb : TE) (k : Int → Int → Hp → Prop) : St → Hp → Prop := fun σ H => ta σ H fun x H1 => tb σ H1 fun y H2 => ∃ i j, x = .int i ∧ y = .int j ∧ k i j H2
def tAdd (ta tb : TE) : TE := fun σ H Q => t2I ta tb (fun i j H2 => Q (.int (i + j)) H2) σ H
def tSub (ta tb : TE) : TE := fun σ H Q => t2I ta tb (fun i j H2 => Q (.int (i - j)) H2) σ H
/-- the left factor below 2^64 -/
def tMul (ta tb : TE) : TE := fun σ H Q => t2I ta tb (fun i j H2 => (-(2 ^ 64) < i ∧ i < 2 ^ 64) ∧ Q (.int (i * j)) H2) σ H
variable {a b : Expr} {ta tb : TE} {pos : Pos}
/-! ### comparisons -/
def PC (X : Cx) (op : CmpOp) (a b : Expr) (t : TE) : Prop :=
  ∀ (pins : List (Addr × Obj)) (s : Shared) (σ : St) (H : Hp) (Q : VK), Inv X pins σ H s → t σ H Q →
    wpAny (model X.prog X.w) X.A (eval a X.env) (fun v s₁ => wpAny (model X.prog X.w) X.A (eval b X.env) (fun u s₂ => wpAny (model X.prog X.w) X.A (compareOp op v u) (EP X pins σ Q) X.xe s₂) X.xe s₁) X.xe s
def tCmp (p : Int → Int → Bool) (ta tb : TE) : TE := fun σ H Q => t2I ta tb (fun i j H2 => Q (.bl (p i j)) H2) σ H
abbrev tLt : TE → TE → TE := tCmp fun i j => decide (i < j)
abbrev tLe : TE → TE → TE := tCmp fun i j => decide (i ≤ j)
abbrev tGt : TE → TE → TE := tCmp fun i j => decide (j < i)
abbrev tGe : TE → TE → TE := tCmp fun i j => decide (j ≤ i)
abbrev tEqI : TE → TE → TE := tCmp fun i j => decide (i = j)
abbrev tNeI : TE → TE → TE := tCmp fun i j => !decide (i = j)
/-- is None -/
def tIsN (ta : TE) : TE := fun σ H Q => ta σ H fun x H1 => Q (.bl (decide (x = .non))) H1
def tNotN (ta : TE) : TE := fun σ H Q => ta σ H fun x H1 => Q (.bl (!decide (x = .non))) H1
/-- a comparison as a value, as a test -/
def tB (t : TE) : TT := fun σ H Q => t σ H fun x H1 => ∃ c, x = .bl c ∧ Q c H1
theorem pt_cmp {op : CmpOp} {t : TE} (h : PC X op a b t) (h1 : behindInMarks op b = false := by first | exact nobehind _ (by decide) (by decide) | rfl) : PT X (.Compare a [op] [b] pos) (tB t) := by
  intro pins s σ H Q I hw
  refine wpAny_isTrue_Compare1 (thn (h pins s σ H _ I hw) fun v s1 h1 => thn h1 fun u s2 h2 => thn h2 fun c s3 ⟨x, H1, I1, r1, q1⟩ => ?_) h1
  obtain ⟨d, rfl, q⟩ := q1
  cases r1
  exact wpAny_truthy_bool ⟨H1, I1, q⟩
/-- an expression whose value is a bool, as a test -/
theorem pt_val {e : Expr} {t : TE} (h : PE X e t) (he : ∀ whole, isTrue e X.env whole = (do let v ← whole; standAt e.pos; holding [v] (truthy v)) := by intro _; rfl) : PT X e (tB t) := by
  intro pins s σ H Q I hw
  refine isTrue_plain (thn (h pins s σ H _ I hw) fun v s1 ⟨x, H1, I1, r1, q1⟩ => ?_) (he _)
  obtain ⟨d, rfl, q⟩ := q1
  cases r1
  exact wpAny_truthy_bool ⟨H1, I1, q⟩

/-! ### and, or, not -/
variable {tA tB' : TT} {rest : List Expr}
def tAnd (t u : TT) : TT := fun σ H Q => t σ H fun c H1 => if c = true then u σ H1 Q else Q false H1
def tOr (t u : TT) : TT := fun σ H Q => t σ H fun c H1 => if c = true then Q true H1 else u σ H1 Q
def tNot (t : TT) : TT := fun σ H Q => t σ H fun c H1 => Q (!c) H1
theorem pw_and1 (ha : PT X a tA) : PW X (.BoolOp .And [a] pos) tA := by
  intro wh pins s σ H Q I h
  refine isTrue_and (thn (ha pins s σ H Q I h) fun c s1 e => ?_)
  cases c with
  | true => exact isTrue_and_nil e
  | false => exact e
theorem pw_or1 (ha : PT X a tA) : PW X (.BoolOp .Or [a] pos) tA := by
  intro wh pins s σ H Q I h
  refine isTrue_or (thn (ha pins s σ H Q I h) fun c s1 e => ?_)
  cases c with
  | false => exact isTrue_or_nil e
  | true => exact e
theorem pw_and (ha : PT X a tA) (hb : PW X (.BoolOp .And (b :: rest) pos) tB') : PW X (.BoolOp .And (a :: b :: rest) pos) (tAnd tA tB') := by
  intro wh pins s σ H Q I h
  refine isTrue_and (thn (ha pins s σ H _ I h) fun c s1 ⟨H1, I1, q1⟩ => ?_)
  cases c with
  | true => exact hb wh pins s1 σ H1 Q I1 q1
  | false => exact ⟨H1, I1, q1⟩
theorem pw_or (ha : PT X a tA) (hb : PW X (.BoolOp .Or (b :: rest) pos) tB') : PW X (.BoolOp .Or (a :: b :: rest) pos) (tOr tA tB') := by
  intro wh pins s σ H Q I h
  refine isTrue_or (thn (ha pins s σ H _ I h) fun c s1 ⟨H1, I1, q1⟩ => ?_)
  cases c with
  | true => exact ⟨H1, I1, q1⟩
  | false => exact hb wh pins s1 σ H1 Q I1 q1
theorem pt_not (ha : PT X a tA) : PT X (.UnaryOp .Not a pos) (tNot tA) := by
  intro pins s σ H Q I h
  exact isTrue_not (ha pins s σ H (fun c H1 => Q (!c) H1) I h)
/-- .. as values (bools) -/
def tAndV (ta tb : TE) : TE := fun σ H Q => ta σ H fun x H1 => ∃ c, x = .bl c ∧ if c = true then tb σ H1 Q else Q (.bl false) H1
def tOrV (ta tb : TE) : TE := fun σ H Q => ta σ H fun x H1 => ∃ c, x = .bl c ∧ if c = true then Q (.bl true) H1 else tb σ H1 Q
def tNotV (ta : TE) : TE := fun σ H Q => ta σ H fun x H1 => ∃ c, x = .bl c ∧ Q (.bl (!c)) H1
theorem pe_one {op} {t : TE} (h : PE X a t) : PE X (.BoolOp op [a] pos) t := fun pins s σ H Q I hw => BoolOp_one (h pins s σ H Q I hw)
theorem pe_and (ha : PE X a ta) (hb : PE X (.BoolOp .And (b :: rest) pos) tb) : PE X (.BoolOp .And (a :: b :: rest) pos) (tAndV ta tb) := by
  intro pins s σ H Q I h
  refine BoolOp_and (thn (ha pins s σ H _ I h) fun v s1 ⟨x, H1, I1, r1, q1⟩ => ?_)
  obtain ⟨c, rfl, q1⟩ := q1
  cases r1
  refine wpAny_truthy_bool ?_
  cases c with
  | true => exact hb pins s1 σ H1 Q I1 q1
  | false => exact ⟨.bl false, H1, I1, rfl, q1⟩
/-- a if t else b -/
def tIf (t : TT) (ta tb : TE) : TE := fun σ H Q => t σ H fun c H1 => if c = true then ta σ H1 Q else tb σ H1 Q
theorem pe_ifExp {c : Expr} (hc : PT X c tA) (ha : PE X a ta) (hb : PE X b tb) : PE X (.IfExp c a b pos) (tIf tA ta tb) := by
  intro pins s σ H Q I h
  refine wpAny_IfExp (thn (hc pins s σ H _ I h) fun d s1 ⟨H1, I1, q1⟩ => ?_)
  cases d with
  | true => exact ha pins s1 σ H1 Q I1 q1
  | false => exact hb pins s1 σ H1 Q I1 q1
end
end L2

namespace L2
open PySem PySem.Spec PyProof.Rows

/-! ### a list, a tuple that is read: tracked, frozen, or an object of the module -/
def SqL (K : PySem.W.Frag) (H : Hp) (a : Addr) (xs : List V) : Prop :=
  Rd H a (.lst xs) ∨
    ∃ (o : Obj) (its : Array Value) (n : Nat), K.lookup a = some o ∧ o.cls = .type "list" ∧ o.dict = none ∧ o.data = .seq its n ∧ its.size ≤ sizeLine ∧ Vals xs its.toList
def SqT (K : PySem.W.Frag) (H : Hp) (a : Addr) (xs : List V) : Prop :=
  Rd H a (.tup xs) ∨
    ∃ (o : Obj) (its : Array Value) (n : Nat), K.lookup a = some o ∧ o.cls = .type "tuple" ∧ o.data = .seq its n ∧ its.size ≤ sizeLine ∧ Vals xs its.toList
def absV : Value → Option V
  | .none => some .non
  | .bool b => some (.bl b)
  | .int i _ => some (.int i)
  | .str x _ => some (.str x)
  | .bytes b _ => some (.byt b)
  | .float b _ => some (.flt b)
  | .ref a => some (.ref a)
  | .type n => some (.ty n)
  | _ => none
theorem RelV.abs {x : V} {u : Value} (r : RelV x u) : absV u = some x := by
  cases x with
  | non => cases r; rfl
  | bl _ => cases r; rfl
  | int _ => obtain ⟨t, rfl⟩ := r; rfl
  | str _ => obtain ⟨t, rfl⟩ := r; rfl
  | byt _ => obtain ⟨t, rfl⟩ := r; rfl
  | flt _ => obtain ⟨t, rfl⟩ := r; rfl
  | ref _ => cases r; rfl
  | ty _ => cases r; rfl
theorem RelV.inj {x y : V} {u : Value} (r : RelV x u) (q : RelV y u) : x = y := Option.some.inj (r.abs.symm.trans q.abs)
theorem Vals.inj : ∀ {xs ys : List V} {us : List Value}, Vals xs us → Vals ys us → xs = ys
  | _, _, _, .nil, .nil => rfl
  | _, _, _, .cons r t, .cons r' t' => by rw [r.inj r', Vals.inj t t']
section
variable {X : Cx} {pins : List (Addr × Obj)} {σ : St} {H : Hp} {s : Shared} {a : Addr} {xs ys : List V}
theorem SqL.of {K : PySem.W.Frag} (h : H a = some (.lst xs)) : SqL K H a xs := .inl (.inl h)
theorem SqT.of {K : PySem.W.Frag} (h : H a = some (.tup xs)) : SqT K H a xs := .inl (.inl h)
theorem Inv.list (I : Inv X pins σ H s) (h : SqL X.K H a xs) : ∃ its : List Value, Vals xs its ∧ PlainL s.heap a its.toArray ∧ xs.length ≤ sizeLine := by
  rcases h with h | ⟨o, its, n, hk, hc, hd, hs, hz, r⟩
  · obtain ⟨z, its, n, r, e⟩ := h.ok I.hok
    exact ⟨its, r, ⟨_, n, e, rfl, rfl, rfl⟩, z⟩
  · refine ⟨its.toList, r, ⟨o, n, I.kIn a o hk, hc, hd, by simpa using hs⟩, ?_⟩
    have e := r.length
    simp only [Array.length_toList] at e
    omega
theorem Inv.tuple (I : Inv X pins σ H s) (h : SqT X.K H a xs) : ∃ its : List Value, Vals xs its ∧ IsTup s.heap a its.toArray ∧ xs.length ≤ sizeLine := by
  rcases h with h | ⟨o, its, n, hk, hc, hs, hz, r⟩
  · obtain ⟨z, its, r, p⟩ := h.ok I.hok
    exact ⟨its, r, p, z⟩
  · refine ⟨its.toList, r, ⟨o, I.kIn a o hk, hc, n, by simpa using hs⟩, ?_⟩
    have e := r.length
    simp only [Array.length_toList] at e
    omega
theorem Inv.list_inj (I : Inv X pins σ H s) (h : SqL X.K H a xs) (h' : SqL X.K H a ys) : xs = ys := by
  obtain ⟨its, r, ⟨o, n, e, _, _, d⟩, _⟩ := I.list h
  obtain ⟨its', r', ⟨o', n', e', _, _, d'⟩, _⟩ := I.list h'
  rw [e] at e'; cases e'
  rw [d] at d'
  injection d' with d1 _
  have : its = its' := by simpa using congrArg Array.toList d1
  subst this
  exact r.inj r'
end

/-! ### another wish about exceptions -/
abbrev Cx.wish (X : Cx) (E : Value → Shared → Prop) : Cx := { X with xe := E }
/-- no exception leaves -/
abbrev Cx.nox (X : Cx) : Cx := X.wish fun _ _ => False
theorem Cx.Ok.wish {X : Cx} (ok : X.Ok) (E : Value → Shared → Prop) : (X.wish E).Ok :=
  ⟨ok.mod, ok.kind, ok.glob, ok.blt, ok.above, ok.inj, ok.has, ok.cab, ok.hd, ok.frames, ok.stk, ok.exf, ok.bs, ok.bsz, ok.noex, ok.exfs, ok.funs, ok.frf⟩
theorem Cx.Ok.unwish {X : Cx} {E : Value → Shared → Prop} (ok : (X.wish E).Ok) : X.Ok :=
  ⟨ok.mod, ok.kind, ok.glob, ok.blt, ok.above, ok.inj, ok.has, ok.cab, ok.hd, ok.frames, ok.stk, ok.exf, ok.bs, ok.bsz, ok.noex, ok.exfs, ok.funs, ok.frf⟩
section
variable {X : Cx} {pins : List (Addr × Obj)} {σ : St} {H : Hp} {s : Shared} {E : Value → Shared → Prop}
theorem Inv.wish (I : Inv X pins σ H s) (E : Value → Shared → Prop) : Inv (X.wish E) pins σ H s := ⟨I.ok.wish E, I.os, I.bare, I.base, I.loc, I.cell, I.free, I.freeC, I.pin, I.hok, I.len⟩
theorem Inv.unwish (I : Inv (X.wish E) pins σ H s) : Inv X pins σ H s := ⟨I.ok.unwish, I.os, I.bare, I.base, I.loc, I.cell, I.free, I.freeC, I.pin, I.hok, I.len⟩
theorem SP.unwish {D : Ends} {f : Flow} {s' : Shared} (h : SP (X.wish E) pins D f s') : SP X pins D f s' := by
  cases f with
  | next => obtain ⟨σ', H', I, q⟩ := h; exact ⟨σ', H', I.unwish, q⟩
  | brk => obtain ⟨σ', H', I, q⟩ := h; exact ⟨σ', H', I.unwish, q⟩
  | cont => obtain ⟨σ', H', I, q⟩ := h; exact ⟨σ', H', I.unwish, q⟩
  | ret u => obtain ⟨v, σ', H', I, r, q⟩ := h; exact ⟨v, σ', H', I.unwish, r, q⟩
theorem PSs.nox {st : List Stmt} {t : TS} (h : PSs X.nox st t) : PSs X st t := fun pins s σ H D I hw =>
  wpAny_mono (h pins s σ H D (I.wish _) hw) (fun _ _ q => q.unwish) fun _ _ z => False.elim z
end

/-! ### blocks and small statements -/
section
variable {X : Cx} {st : Stmt} {rest : List Stmt} {t u : TS} {e : Expr} {te : TE} {pos : Pos}
def tNext : TS := fun D σ H => D.nx σ H
def tSeq (t u : TS) : TS := fun D σ H => t { D with nx := u D } σ H
theorem pss_nil : PSs X [] tNext := fun _ _ σ H _ I h => wpAny_execs_nil ⟨σ, H, I, h⟩
theorem pss_cons (h1 : PS X st t) (h2 : PSs X rest u) : PSs X (st :: rest) (tSeq t u) := by
  intro pins s σ H D I h
  refine wpAny_execs_cons (thn (h1 pins s σ H { D with nx := u D } I h) fun f s1 q => ?_)
  cases f with
  | next =>
    obtain ⟨σ', H', I', q⟩ := q
    exact h2 pins s1 σ' H' D I' q
  | ret v => exact q
  | brk => exact q
  | cont => exact q
theorem pss_one (h1 : PS X st t) : PSs X [st] t := by
  intro pins s σ H D I h
  refine wpAny_execs_cons (thn (h1 pins s σ H D I h) fun f s1 q => ?_)
  cases f with
  | next => exact wpAny_execs_nil q
  | ret v => exact q
  | brk => exact q
  | cont => exact q
def tBreak : TS := fun D σ H => D.bk σ H
def tCont : TS := fun D σ H => D.ct σ H
/-- in a def's body nothing is shown -/
theorem Inv.quiet {pins : List (Addr × Obj)} {σ : St} {H : Hp} {s : Shared} (I : Inv X pins σ H s) : interactive X.env = false := by simp [interactive, I.ok.kind]
/-- an expression whose value is dropped -/
def tDrop (te : TE) : TS := fun D σ H => te σ H fun _ H1 => D.nx σ H1
theorem ps_expr (he : PE X e te) (hs : swapsWith e none pos.line X.env = pure false := by rfl) : PS X (.Expr e pos) (tDrop te) := by
  intro pins s σ H D I h
  exact wpAny_Expr_any (thn (he pins s σ H _ I h) fun v s1 ⟨x, H1, I1, r1, q1⟩ => ⟨σ, H1, I1, q1⟩) I.quiet hs
def tRet (te : TE) : TS := fun D σ H => te σ H D.rt
theorem ps_ret (he : PE X e te) : PS X (.Return (some e) pos) (tRet te) := by
  intro pins s σ H D I h
  exact wpAny_Return_some (thn (he pins s σ H _ I h) fun v s1 ⟨x, H1, I1, r1, q1⟩ => ⟨x, σ, H1, I1, r1, q1⟩)
def tRetN : TS := fun D _ H => D.rt .non H
def tIfS (c : TT) (t u : TS) : TS := fun D σ H => c σ H fun b H1 => if b = true then t D σ H1 else u D σ H1
theorem ps_if {c : Expr} {a b : List Stmt} {tc : TT} (hc : PT X c tc) (ha : PSs X a t) (hb : PSs X b u) : PS X (.If c a b pos) (tIfS tc t u) := by
  intro pins s σ H D I h
  refine wpAny_If (thn (hc pins s σ H _ I h) fun d s1 ⟨H1, I1, q1⟩ => ?_)
  cases d with
  | true => exact ha pins s1 σ H1 D I1 q1
  | false => exact hb pins s1 σ H1 D I1 q1
/-- code that the proof never comes to -/
def tNever : TS := fun _ _ _ => False
end

/-! ### targets -/
abbrev TG := V → St → Hp → (St → Hp → Prop) → Prop
abbrev TGs := List V → St → Hp → (St → Hp → Prop) → Prop
def PG (X : Cx) (target : Expr) (t : TG) : Prop :=
  ∀ (pins : List (Addr × Obj)) (s : Shared) (σ : St) (H : Hp) (v : V) (u : Value) (Q : St → Hp → Prop), Inv X pins σ H s → RelV v u → t v σ H Q →
    wpAny (model X.prog X.w) X.A (assign target X.env u) (fun _ s' => ∃ σ' H', Inv X pins σ' H' s' ∧ Q σ' H') X.xe s
/-- several targets, one after another -/
def PGs (X : Cx) (ts : List Expr) (t : TGs) : Prop :=
  ∀ (pins : List (Addr × Obj)) (s : Shared) (σ : St) (H : Hp) (vs : List V) (us : List Value) (Q : St → Hp → Prop), Inv X pins σ H s → Vals vs us → t vs σ H Q →
    wpAny (model X.prog X.w) X.A (assignInOrder ((assignEach ts X.env).map (·.2)) us) (fun _ s' => ∃ σ' H', Inv X pins σ' H' s' ∧ Q σ' H') X.xe s
/-- o[i] = v, by values -/
abbrev TSet := V → V → V → Hp → (Hp → Prop) → Prop
def PSet (X : Cx) (t : TSet) : Prop :=
  ∀ (pins : List (Addr × Obj)) (s : Shared) (σ : St) (H : Hp) (o i v : V) (ov iv u : Value) (Q : Hp → Prop), Inv X pins σ H s → RelV o ov → RelV i iv → RelV v u → t o i v H Q →
    wpAny (model X.prog X.w) X.A (setItem ov iv u) (fun _ s' => ∃ H', Inv X pins σ H' s' ∧ Q H') X.xe s
/-- a op= b, by values -/
abbrev TIp := V → V → Hp → VK → Prop
def PIp (X : Cx) (op : Operator) (t : TIp) : Prop :=
  ∀ (pins : List (Addr × Obj)) (s : Shared) (σ : St) (H : Hp) (x y : V) (v u : Value) (Q : VK), Inv X pins σ H s → RelV x v → RelV y u → t x y H Q →
    wpAny (model X.prog X.w) X.A (inplaceOp op v u) (EP X pins σ Q) X.xe s
section
variable {X : Cx} {pos : Pos}
def gName (i : Nat) : TG := fun v σ H Q => Q (σ.set i (some v)) H
theorem pg_name {i : Nat} {x : Str} (hN : X.N.Nodup) (hi : X.N[i]? = some x) (hx : Loc X.env.scope x) (hf : X.fn x = true ∨ X.env.scope.names.lookup x = some .local := by first | exact .inl rfl | exact .inr rfl | assumption) : PG X (.Name x pos) (gName i) := by
  intro pins s σ H v u Q I r h
  exact wpAny_assign_Name (store_ok I hN hi hx r (fun s' I' => ⟨_, H, I', h⟩) hf)
def gNil : TGs := fun vs σ H Q => vs = [] ∧ Q σ H
def gCons (t : TG) (u : TGs) : TGs := fun vs σ H Q => ∃ v r, vs = v :: r ∧ t v σ H fun σ' H' => u r σ' H' Q
theorem pgs_nil : PGs X [] gNil := by
  intro pins s σ H vs us Q I r h
  obtain ⟨e, h⟩ := h
  subst e
  cases r
  exact assignInOrder_nil ⟨σ, H, I, h⟩
theorem pgs_cons {e : Expr} {es : List Expr} {t : TG} {u : TGs} (h1 : PG X e t) (h2 : PGs X es u)
    (hs : (assignEach (e :: es) X.env).map (·.2) = assign e X.env :: (assignEach es X.env).map (·.2) := by rfl) : PGs X (e :: es) (gCons t u) := by
  intro pins s σ H vs us Q I r h
  obtain ⟨v, vr, e1, h⟩ := h
  subst e1
  cases r with
  | cons r rr =>
    rw [hs]
    refine assignInOrder_cons (thn (h1 pins s σ H _ _ _ I r h) fun _ s1 ⟨σ1, H1, I1, q1⟩ => ?_)
    exact h2 pins s1 σ1 H1 _ _ Q I1 rr q1
/-- (a, b, ..) = a tuple of that length -/
def gTup (K : PySem.W.Frag) (n : Nat) (t : TGs) : TG := fun v σ H Q => ∃ a xs, v = .ref a ∧ SqT K H a xs ∧ xs.length = n ∧ t xs σ H Q
theorem pg_tup {es : List Expr} {k : Nat} {t : TGs} {n : Nat} (hc : X.calm = true) (h : PGs X es t)
    (hn : (assignEach es X.env).length = n := by rfl) (hst : (assignEach es X.env).findIdx? (·.1) = none := by rfl) : PG X (.Tuple es k pos) (gTup X.K n t) := by
  intro pins s σ H v u Q I r hw
  obtain ⟨a, xs, e1, hq, hl, hw⟩ := hw
  subst e1
  cases r
  obtain ⟨its, rv, ht, hz⟩ := I.tuple hq
  refine assign_Tuple_tuple (I.ok.hd hc) ht (by simp [hn, ← hl, rv.length]) hst fun h' hx => ?_
  have I1 : Inv X pins σ H { s with heap := h' } := I.kept (t' := s.toks) fun b o e => hx b o (Nat.ne_of_lt (Heap.lt_size e)) e
  exact h pins _ σ H xs _ Q I1 (by simpa using rv) hw
/-- o[i] = .. -/
def gSub (to ti : TE) (t : TSet) : TG := fun v σ H Q => to σ H fun o H1 => ti σ H1 fun i H2 => t o i v H2 fun H3 => Q σ H3
/-- target = value -/
def tAsg (te : TE) (g : TG) : TS := fun D σ H => te σ H fun x H1 => g x σ H1 D.nx
/-- name = value -/
theorem ps_set {i : Nat} {x : Str} {e : Expr} {te : TE} {pos' : Pos} (hN : X.N.Nodup) (hi : X.N[i]? = some x) (hx : Loc X.env.scope x) (he : PE X e te) (hs : swapsWith e (some (.Name x pos')) pos.line X.env = pure false := by rfl) (hf : X.fn x = true ∨ X.env.scope.names.lookup x = some .local := by first | exact .inl rfl | exact .inr rfl | assumption) :
    PS X (.Assign [.Name x pos'] e pos) (tAsg te (gName i)) := by
  intro pins s σ H D I h
  refine wpAny_Assign_Name (thn (he pins s σ H _ I h) fun v s1 ⟨y, H1, I1, r1, q1⟩ => ?_) hs
  exact store_ok I1 hN hi hx r1 (fun s2 I2 => ⟨_, H1, I2, q1⟩) hf
/-- a, b = x, y with plain local names: stored from the right; the pair itself is not tracked (the opening rows as in PyProof/Rows/TupAssign.lean:23) -/
def tPar (i j : Nat) (ta : TA) : TS := fun D σ H => ta σ H fun vs H1 => ∃ v w, vs = [v, w] ∧ D.nx ((σ.set i (some v)).set j (some w)) H1
/-- name op= e -/
def tAug (i : Nat) (te : TE) (ti : TIp) : TS := fun D σ H => ∃ x, σ[i]? = some (some x) ∧ te σ H fun y H1 => ti x y H1 fun z H2 => D.nx (σ.set i (some z)) H2
/-- o[i] op= e -/
def tAugS (to ti te : TE) (tget : V → V → Hp → VK → Prop) (tip : TIp) (tset : TSet) : TS := fun D σ H => to σ H fun o H1 => ti σ H1 fun i H2 => tget o i H2 fun x H3 => te σ H3 fun y H4 => tip x y H4 fun z H5 => tset o i z H5 fun H6 => D.nx σ H6
/-- o[i], by values -/
def PGet (X : Cx) (t : V → V → Hp → VK → Prop) : Prop :=
  ∀ (pins : List (Addr × Obj)) (s : Shared) (σ : St) (H : Hp) (o i : V) (ov iv : Value) (Q : VK), Inv X pins σ H s → RelV o ov → RelV i iv → t o i H Q →
    wpAny (model X.prog X.w) X.A (getItem ov iv) (EP X pins σ Q) X.xe s
theorem ps_augS {o i e : Expr} {to ti te : TE} {tget : V → V → Hp → VK → Prop} {tip : TIp} {tset : TSet} {op : Operator} {tpos : Pos} (ho : PE X o to) (hi : PE X i ti) (hg : PGet X tget) (he : PE X e te) (hp : PIp X op tip) (hs : PSet X tset)
    (ha : ∀ ov iv new, augStore i ov iv new = (do holding [new, ov, iv] (setItem ov iv new); release [new, ov, iv] []; pure .next) := by intros; rfl) : PS X (.AugAssign (.Subscript o i tpos) op e pos) (tAugS to ti te tget tip tset) := by
  intro pins s σ H D I h
  refine wpAny_AugAssign_SubscriptAny (thn (ho pins s σ H _ I h) fun ov s1 ⟨x1, H1, I1, r1, q1⟩ => ?_) ha
  refine thn (hi pins s1 σ H1 _ I1 q1) fun iv s2 ⟨x2, H2, I2, r2, q2⟩ => ?_
  refine thn (hg pins s2 σ H2 x1 x2 ov iv _ I2 r1 r2 q2) fun old s3 ⟨x3, H3, I3, r3, q3⟩ => ?_
  refine thn (he pins s3 σ H3 _ I3 q3) fun v s4 ⟨x4, H4, I4, r4, q4⟩ => ?_
  refine thn (hp pins s4 σ H4 x3 x4 old v _ I4 r3 r4 q4) fun new s5 ⟨x5, H5, I5, r5, q5⟩ => ?_
  exact thn (hs pins s5 σ H5 x1 x2 x5 ov iv new _ I5 r1 r2 r5 q5) fun _ s6 ⟨H6, I6, q6⟩ => ⟨σ, H6, I6, q6⟩
/-- ints -/
def ipI (f : Int → Int → Int) : TIp := fun x y H Q => ∃ i j, x = .int i ∧ y = .int j ∧ Q (.int (f i j)) H
theorem ip_add : PIp X .Add (ipI fun i j => i + j) := by
  intro pins s σ H x y v u Q I r1 r2 h
  obtain ⟨i, j, e1, e2, q⟩ := h
  subst e1; subst e2
  obtain ⟨t, rfl⟩ := r1
  obtain ⟨t', rfl⟩ := r2
  exact iadd_int ⟨.int _, H, I.tok _, ⟨_, rfl⟩, q⟩
end

/-! ### while -/
section
variable {X : Cx} {pos : Pos}
/-- the invariant W with its measure -/
def tWhile (c : TT) (tb : TS) : TS := fun D σ H => ∃ W : Nat → St → Hp → Prop, (∃ m, W m σ H) ∧ ∀ m σ H, W m σ H →
  c σ H fun b H1 => if b = true then ∃ N : St → Hp → Prop, (∀ σ' H', N σ' H' → ∃ m', m' < m ∧ W m' σ' H') ∧ tb { D with nx := N, ct := N, bk := D.nx } σ H1 else D.nx σ H1
theorem ps_while {c : Expr} {body : List Stmt} {tc : TT} {tb : TS} (hp : PassesOwn (model X.prog X.w) X.A X.env X.xe) (hc : PT X c tc) (hb : PSs X body tb) : PS X (.While c body [] pos) (tWhile tc tb) := by
  intro pins s σ H D I h
  obtain ⟨W, ⟨m0, w0⟩, turn⟩ := h
  refine wpAny_While (codeAny_whileLoop (fun n s' => ∃ σ' H', Inv X pins σ' H' s' ∧ W n σ' H') ?_ m0 ⟨σ, H, I, w0⟩)
  rintro n s1 ⟨σ1, H1, I1, w1⟩
  refine wpAny_passesOwn hp (thn (hc pins s1 σ1 H1 _ I1 (turn n σ1 H1 w1)) fun b s2 ⟨H2, I2, q2⟩ => ?_)
  cases b with
  | true =>
    obtain ⟨N, hN, q2⟩ := q2
    rw [if_pos rfl]
    refine wpAny_passesOwn hp (thn (hb pins s2 σ1 H2 _ I2 q2) fun f s3 q3 => ?_)
    cases f with
    | next =>
      obtain ⟨σ3, H3, I3, n3⟩ := q3
      obtain ⟨m', hm, w3⟩ := hN σ3 H3 n3
      exact ⟨m', hm, σ3, H3, I3, w3⟩
    | cont =>
      obtain ⟨σ3, H3, I3, n3⟩ := q3
      obtain ⟨m', hm, w3⟩ := hN σ3 H3 n3
      exact ⟨m', hm, σ3, H3, I3, w3⟩
    | brk => exact q3
    | ret v => exact q3
  | false =>
    rw [if_neg Bool.false_ne_true]
    exact wpAny_execs_nil ⟨σ1, H2, I2, q2⟩
end

/-! ### what a loop or a comprehension walks -/
/-- at turn i: it yields x (the heap may grow), or it stops -/
structure It where
  go : Nat → Hp → Prop
  yld : Nat → Hp → V → Hp → Prop
  stop : Nat → Hp → Prop
/-- the iterator's own objects may turn: they are not the frame's, not pinned, younger than the entry (or a comprehension's own) -/
def FpOk (X : Cx) (pins : List (Addr × Obj)) (H : Hp) (b : Addr) : Prop :=
  H b = none ∧ b ≠ X.env.locals ∧ b ∉ X.fs ∧ (b ∈ X.ex ∨ X.s_0.heap.objs.size ≤ b) ∧ (∀ x c, X.env.cells.lookup x = some c → c ≠ b) ∧ ∀ p ∈ X.pn ++ pins, p.1 ≠ b
theorem Inv.fpOk {X : Cx} {pins : List (Addr × Obj)} {σ : St} {H H' : Hp} {s : Shared} {b : Addr} (I : Inv X pins σ H s) (hb : s.heap.objs.size ≤ b) (hn : H' b = none) : FpOk X pins H' b := by
  refine ⟨hn, Nat.ne_of_gt (Nat.lt_of_lt_of_le I.lt hb), I.nofs hb, .inr (Nat.le_trans I.sz hb), fun x c e z => ?_, fun p hp z => ?_⟩
  · obtain ⟨v, q⟩ := I.cell x c e
    exact absurd (Nat.lt_of_lt_of_le q.lt (by rw [z]; exact hb)) (Nat.lt_irrefl _)
  · exact absurd (Nat.lt_of_lt_of_le (Heap.lt_size (I.pin p hp).1) (by rw [z]; exact hb)) (Nat.lt_irrefl _)
structure Turn (P : Program) (w : World) (K : PySem.W.Frag) (tg : Expr) (J : It) (fp : List Addr) (it : Addr) (tn : Nat → Heap → Prop) : Prop where
  mem : it ∈ fp
  obj : ∀ i h, tn i h → ∀ b ∈ fp, ∃ o, h.get? b = some o ∧ ∀ v, o.data ≠ .cell v
  keep : ∀ i h h', tn i h → (∀ b ∈ fp, ∀ o, h.get? b = some o → h'.get? b = some o) → tn i h'
  item : ∀ (X : Cx), X.prog = P → X.w = w → X.K = K → X.calm = true → ∀ (i : Nat) (pins : List (Addr × Obj)) (s : Shared) (σ : St) (H : Hp) (E : Value → Shared → Prop), Inv X pins σ H s → (∀ b ∈ fp, FpOk X pins H b) → tn i s.heap → J.go i H →
    wpAny (model P w) X.A (pyNext (.ref it)) (fun r s1 => ∃ u, r = some u ∧
      wpAny (model P w) X.A (letOwnedTupleGo tg (.ref it) u) (fun _ s2 => ∃ x H', Inv X pins σ H' s2 ∧ RelV x u ∧ J.yld i H x H' ∧ tn (i + 1) s2.heap ∧ ∀ b ∈ fp, H' b = none) E s1) E s
  done : ∀ (X : Cx), X.prog = P → X.w = w → X.K = K → X.calm = true → ∀ (i : Nat) (pins : List (Addr × Obj)) (s : Shared) (σ : St) (H : Hp) (E : Value → Shared → Prop), Inv X pins σ H s → (∀ b ∈ fp, FpOk X pins H b) → tn i s.heap → J.stop i H →
    wpAny (model P w) X.A (pyNext (.ref it)) (fun r s1 => r = none ∧ Inv X pins σ H s1) E s
  self : ∀ (A : Around) (i : Nat) (s : Shared) (Q : Value → Shared → Prop) (E : Value → Shared → Prop), tn i s.heap → Q (.ref it) s → wpAny (model P w) A (pyIter (.ref it)) Q E s
abbrev TI := St → Hp → (It → Hp → Prop) → Prop
/-- an iterator has come -/
def PIE (X : Cx) (pins : List (Addr × Obj)) (σ : St) (tg : Expr) (R : It → Hp → Prop) (itv : Value) (s2 : Shared) : Prop :=
  ∃ (it : Addr) (fp : List Addr) (tn : Nat → Heap → Prop) (J : It) (H' : Hp), itv = .ref it ∧ Inv X pins σ H' s2 ∧ Turn X.prog X.w X.K tg J fp it tn ∧ tn 0 s2.heap ∧ (∀ b ∈ fp, FpOk X pins H' b) ∧ R J H'
def PI (X : Cx) (tg iter : Expr) (wi : TI) : Prop :=
  ∀ (pins : List (Addr × Obj)) (s : Shared) (σ : St) (H : Hp) (R : It → Hp → Prop), Inv X pins σ H s → wi σ H R →
    wpAny (model X.prog X.w) X.A (eval iter X.env) (fun v s1 => wpAny (model X.prog X.w) X.A (pyIter v) (PIE X pins σ tg R) X.xe s1) X.xe s

/-- the step ahead of the store is nothing for an iterator that keeps no tuple -/
theorem go_of {M : Model} {A : Around} {E : Value → Shared → Prop} {s : Shared} {tg : Expr} {it : Addr} {u : Value} {o : Obj} {n : String} {vs : Array Value} {Q : Unit → Shared → Prop} (ho : s.heap.get? it = some o) (hc : o.cls = .type n) (hd : o.data = .fields vs)
    (hn : ["enumerate", "zip", "dict_itemiterator", "dict_reverseitemiterator", "odict_iterator", "itertools.zip_longest", "itertools.pairwise"].contains n = false) (hQ : Q () s) : wpAny M A (letOwnedTupleGo tg (.ref it) u) Q E s := by
  unfold letOwnedTupleGo
  cases tg <;> first
    | exact wpAny_pure hQ
    | (cases u <;> first
        | exact wpAny_pure hQ
        | (refine wpAny_bind (wpAny_load ho ?_)
           rw [hc, hd]
           show wpAny M A (if (["enumerate", "zip", "dict_itemiterator", "dict_reverseitemiterator", "odict_iterator", "itertools.zip_longest", "itertools.pairwise"].contains n && vs[0]? == some (rawInt _)) = true then _ else _) Q E s
           rw [if_neg (by intro h; rw [hn, Bool.false_and] at h; cases h)]
           exact wpAny_pure hQ))

/-- the list at a, as it stands at each turn (a loop may append to it) -/
def Itl (K : PySem.W.Frag) (a : Addr) : It :=
  ⟨fun i H => ∃ xs x, SqL K H a xs ∧ xs[i]? = some x, fun i H x H' => H' = H ∧ ∀ xs, SqL K H a xs → xs[i]? = some x, fun i H => ∃ xs, SqL K H a xs ∧ xs.length ≤ i⟩
def Itt (K : PySem.W.Frag) (a : Addr) : It :=
  ⟨fun i H => ∃ xs x, SqT K H a xs ∧ xs[i]? = some x, fun i H x H' => H' = H ∧ ∀ xs, SqT K H a xs → xs[i]? = some x, fun i H => ∃ xs, SqT K H a xs ∧ xs.length ≤ i⟩
/-- lo, lo + 1, .. (n of them) -/
def Itr (lo : Int) (n : Nat) : It := ⟨fun i _ => i < n, fun i H x H' => H' = H ∧ x = .int (lo + i), fun i _ => n ≤ i⟩
theorem turn_list {P : Program} {w : World} {K : PySem.W.Frag} {tg : Expr} (a it : Addr) : Turn P w K tg (Itl K a) [it] it (fun i h => h.IsListIter it a i) where
  mem := by simp
  obj := fun i h st b hb => by
    have e : b = it := by simpa using hb
    subst e
    obtain ⟨o, e, c, d⟩ := st
    exact ⟨o, e, fun v z => by rw [d] at z; cases z⟩
  keep := fun i h h' st k => st.at fun o e => k it (by simp) o e
  item := by
    intro X hP hw hK hc i pins s σ H E I hf st hg
    subst hP hw hK
    obtain ⟨xs, x, hq, hx⟩ := hg
    obtain ⟨its, rv, p, hz⟩ := I.list hq
    obtain ⟨u, hu, ru⟩ := rv.get hx
    obtain ⟨f0, f1, f2, f3, f4, f5⟩ := hf it (by simp)
    refine wpAny_pyNext_list_item st p.isList (x := u) (by simpa using hu) fun h' st' sb => ?_
    have I1 : Inv X pins σ H { s with heap := h' } := I.turned (t' := s.toks) (fun b o hb e => (sb.2 b hb).trans e) f0 f1 f3 f4 f5
    obtain ⟨o, e, c, d⟩ := id st'
    exact ⟨u, rfl, go_of (s := { s with heap := h' }) e c d (by decide) ⟨x, H, I1, ru, ⟨rfl, fun ys hy => by rw [I.list_inj hy hq]; exact hx⟩, st', fun b hb => (hf b hb).1⟩⟩
  done := by
    intro X hP hw hK hc i pins s σ H E I hf st hg
    subst hP hw hK
    obtain ⟨xs, hq, hx⟩ := hg
    obtain ⟨its, rv, p, hz⟩ := I.list hq
    obtain ⟨f0, f1, f2, f3, f4, f5⟩ := hf it (by simp)
    have hl := rv.length
    exact wpAny_pyNext_list_end (I.ok.hd hc) st p.isList (by simp; omega) fun h' eb => ⟨rfl, I.turned (t' := s.toks) (fun b o hb e => eb b o hb e) f0 f1 f3 f4 f5⟩
  self := fun _ _ _ _ _ st h => wpAny_pyIter_listiter st h
theorem turn_range {P : Program} {w : World} {K : PySem.W.Frag} {tg : Expr} (it : Addr) (lo : Int) (n : Nat) : Turn P w K tg (Itr lo n) [it] it (fun i h => IsRangeIter h it (lo + (i : Nat) * 1) ((n : Int) - (i : Nat)) 1) where
  mem := by simp
  obj := fun i h st b hb => by
    have e : b = it := by simpa using hb
    subst e
    exact ⟨_, st, fun v z => by
      have z' : Data.fields _ = Data.cell v := z
      cases z'⟩
  keep := fun i h h' st k => k it (by simp) _ st
  item := by
    intro X hP hw hK hc i pins s σ H E I hf st hg
    subst hP hw hK
    obtain ⟨f0, f1, f2, f3, f4, f5⟩ := hf it (by simp)
    have W := Walks.range (prog := X.prog) (w := X.w) (I.ok.hd hc) it lo 1 n
    refine W.item i s _ _ hg st fun v h' tk hv st' kk => ?_
    obtain ⟨t, rfl⟩ := hv
    have I1 : Inv X pins σ H { s with heap := h', toks := tk } := I.turned (fun b o hb e => kk b o (by simpa using hb) e) f0 f1 f3 f4 f5
    refine ⟨_, rfl, go_of (s := { s with heap := h', toks := tk }) (n := "range_iterator") st' rfl rfl (by decide) ⟨.int (lo + i), H, I1, ⟨t, ?_⟩, ⟨rfl, rfl⟩, st', fun b hb => (hf b hb).1⟩⟩
    rw [Int.mul_one]
  done := by
    intro X hP hw hK hc i pins s σ H E I hf st hg
    subst hP hw hK
    obtain ⟨f0, f1, f2, f3, f4, f5⟩ := hf it (by simp)
    exact wpAny_pyNext_range_end (I.ok.hd hc) st (by have : n ≤ i := hg; omega) fun h' eb => ⟨rfl, I.turned (t' := s.toks) (fun b o hb e => eb b o hb e) f0 f1 f3 f4 f5⟩
  self := fun _ _ _ _ _ st h => wpAny_pyIter_rangeiter st h
end L2

namespace L2
open PySem PySem.Spec PyProof.Rows
section
variable {X : Cx} {tg : Expr}
def iList (K : PySem.W.Frag) (tl : TE) : TI := fun σ H R => tl σ H fun x H1 => ∃ a, x = .ref a ∧ (∃ xs, SqL K H1 a xs) ∧ R (Itl K a) H1
def iTup (K : PySem.W.Frag) (tl : TE) : TI := fun σ H R => tl σ H fun x H1 => ∃ a, x = .ref a ∧ (∃ xs, SqT K H1 a xs) ∧ R (Itt K a) H1
theorem pi_list {l : Expr} {tl : TE} (hl : PE X l tl) : PI X tg l (iList X.K tl) := by
  intro pins s σ H R I h
  refine thn (hl pins s σ H _ I h) fun v s1 ⟨x, H1, I1, r1, q1⟩ => ?_
  obtain ⟨a, e, ⟨xs, hq⟩, q⟩ := q1
  subst e
  cases r1
  obtain ⟨its, rv, p, hz⟩ := I1.list hq
  refine wpAny_pyIter_list p.isList ?_
  refine ⟨s1.heap.objs.size, [s1.heap.objs.size], _, _, H1, rfl, I1.kept (t' := s1.toks) fun b o e => Heap.get?_push_of_some _ e, turn_list a _, ⟨_, Heap.get?_push_size _ rfl, rfl, rfl⟩, fun b hb => ?_, q⟩
  have e : b = s1.heap.objs.size := by simpa using hb
  subst e
  exact I1.fpOk (Nat.le_refl _) (I1.hok.fresh (Nat.le_refl _))
/-- a range object just made, walked -/
theorem range_it {pins : List (Addr × Obj)} {σ : St} {H : Hp} {s : Shared} {R : It → Hp → Prop} {E : Value → Shared → Prop} {lo hi : Int} {t u v : Tok} {tk : Nat} (I : Inv X pins σ H s) (h1 : -(2 ^ 62) ≤ lo) (h2 : lo < 2 ^ 62) (h3 : -(2 ^ 62) ≤ hi) (h4 : hi < 2 ^ 62)
    (q : R (Itr lo (hi - lo).toNat) H) : wpAny (model X.prog X.w) X.A (pyIter (.ref s.heap.objs.size)) (PIE X pins σ tg R) E { s with heap := s.heap.push { cls := .type "range", data := .fields #[.int lo t, .int hi u, .int 1 v] }, toks := tk } := by
  refine wpAny_pyIter_range (IsRange.new ..) (small_one h1 h2 h3 h4) ?_
  have I1 : Inv X pins σ H { s with heap := s.heap.push { cls := .type "range", data := .fields #[.int lo t, .int hi u, .int 1 v] }, toks := tk } := I.kept fun b o e => Heap.get?_push_of_some _ e
  refine ⟨(s.heap.push { cls := .type "range", data := .fields #[.int lo t, .int hi u, .int 1 v] }).objs.size, [(s.heap.push { cls := .type "range", data := .fields #[.int lo t, .int hi u, .int 1 v] }).objs.size], _, _, H, rfl,
    I1.kept (t' := tk) fun b o e => Heap.get?_push_of_some _ e, turn_range _ lo (hi - lo).toNat, ?_, fun b hb => ?_, q⟩
  · have e1 : lo + ((0 : Nat) : Int) * 1 = lo := by simp
    have e2 : (((hi - lo).toNat : Nat) : Int) - ((0 : Nat) : Int) = Builtin.Range.rangeSize lo hi 1 := by rw [rangeSize_one]; split <;> omega
    show IsRangeIter _ _ (lo + ((0 : Nat) : Int) * 1) ((((hi - lo).toNat : Nat) : Int) - ((0 : Nat) : Int)) 1
    rw [e1, e2]
    exact Heap.get?_push_size _ rfl
  · have e : b = (s.heap.push { cls := .type "range", data := .fields #[.int lo t, .int hi u, .int 1 v] }).objs.size := by simpa using hb
    subst e
    exact I1.fpOk (Nat.le_refl _) (I1.hok.fresh (Nat.le_refl _))
def iRng1 (ta : TA) : TI := fun σ H R => ta σ H fun vs H1 => ∃ j : Int, vs = [.int j] ∧ -(2 ^ 62) ≤ j ∧ j < 2 ^ 62 ∧ R (Itr 0 j.toNat) H1
def iRng2 (ta : TA) : TI := fun σ H R => ta σ H fun vs H1 => ∃ i j : Int, vs = [.int i, .int j] ∧ (-(2 ^ 62) ≤ i ∧ i < 2 ^ 62 ∧ -(2 ^ 62) ≤ j ∧ j < 2 ^ 62) ∧ R (Itr i (j - i).toNat) H1
theorem pi_range1 {a : Expr} {ta : TA} {p pos : Pos} (hg : Gl X "range") (hm : X.mg "range" = none) (ha : PA X [a] ta) (hs : starEach [a] X.env = [(false, eval a X.env)] := by rfl) : PI X tg (.Call (.Name "range" p) [a] [] pos) (iRng1 ta) := by
  intro pins s σ H R I h
  refine Call_ (ld_blt I hg hm boot_range (PyProof.Rows.callWith_type1 (thn (ha pos pins s σ H _ I h) fun us s1 ⟨vs, H1, I1, r1, q1⟩ => ?_) hs rfl))
  obtain ⟨j, e, q1, q2, q⟩ := q1
  subst e
  cases r1 with
  | cons r rr =>
    cases rr
    obtain ⟨t, rfl⟩ := r
    exact call_range_1 (range_it I1 (by omega) (by omega) q1 q2 (by simpa using q))
/-! ### for -/
/-- W: the invariant by the turn and a measure; N: what the body is to reach -/
def tFor (wi : TI) (g : TG) (tb : TS) : TS := fun D σ H => wi σ H fun J H1 => ∃ W : Nat → Nat → St → Hp → Prop, (∃ m, W 0 m σ H1) ∧ ∀ i m σ H, W i m σ H →
  (J.stop i H ∧ D.nx σ H) ∨ (J.go i H ∧ ∃ N : St → Hp → Prop, (∀ σ' H', N σ' H' → ∃ m', m' < m ∧ W (i + 1) m' σ' H') ∧ ∀ x H', J.yld i H x H' → g x σ H' fun σ2 H2 => tb { D with nx := N, ct := N, bk := D.nx } σ2 H2)
/-- the records at fp as they stand -/
def pinsAt (fp : List Addr) (h : Heap) : List (Addr × Obj) := fp.filterMap fun b => (h.get? b).map fun o => (b, o)
theorem mem_pinsAt {fp : List Addr} {h : Heap} {b : Addr} {o : Obj} (hb : b ∈ fp) (e : h.get? b = some o) : (b, o) ∈ pinsAt fp h := List.mem_filterMap.mpr ⟨b, hb, by rw [e]; rfl⟩
theorem of_pinsAt {fp : List Addr} {h : Heap} {p : Addr × Obj} (hp : p ∈ pinsAt fp h) : p.1 ∈ fp ∧ h.get? p.1 = some p.2 := by
  obtain ⟨b, hb, e⟩ := List.mem_filterMap.mp hp
  cases q : h.get? b with
  | none => rw [q] at e; cases e
  | some o =>
    rw [q] at e
    have e' : (b, o) = p := Option.some.inj e
    subst e'
    exact ⟨hb, q⟩
theorem Inv.pinned {pins : List (Addr × Obj)} {σ : St} {H : Hp} {s : Shared} {fp : List Addr} (I : Inv X pins σ H s) (hf : ∀ b ∈ fp, FpOk X pins H b) (ho : ∀ b ∈ fp, ∃ o, s.heap.get? b = some o ∧ ∀ v, o.data ≠ .cell v) : Inv X (pins ++ pinsAt fp s.heap) σ H s :=
  I.pins_of fun p hp => (List.mem_append.mp hp).elim (fun z => I.pin p (List.mem_append_right _ z)) fun z => by
    obtain ⟨hb, e⟩ := of_pinsAt z
    obtain ⟨f0, f1, f2, _⟩ := hf p.1 hb
    obtain ⟨o, e', d⟩ := ho p.1 hb
    rw [e] at e'; cases e'
    exact ⟨e, f0, f1, f2, d⟩
theorem Inv.unpinned {pins pl : List (Addr × Obj)} {σ : St} {H : Hp} {s : Shared} (I : Inv X (pins ++ pl) σ H s) : Inv X pins σ H s := I.pins_of fun p hp => I.pin p (List.mem_append_right _ (List.mem_append_left _ hp))
theorem ps_for {iter : Expr} {body : List Stmt} {wi : TI} {g : TG} {tb : TS} {pos : Pos} (hp : PassesOwn (model X.prog X.w) X.A X.env X.xe) (hc : X.calm = true) (hi : PI X tg iter wi) (hg : PG X tg g) (hb : PSs X body tb)
    (hs : ∀ x, foldedSetIterable iter X.env x = pure x := by intro _; rfl) : PS X (.For tg iter body [] pos) (tFor wi g tb) := by
  intro pins s σ H D I h
  refine wpAny_For (thn (hi pins s σ H _ I h) fun v s1 h1 => thn h1 fun itv s2 h2 => ?_) hs
  obtain ⟨it, fp, tn, J, H2, e, I2, T, st2, f2, W, ⟨m0, w0⟩, turn⟩ := h2
  subst e
  -- what stays true of the iterator's objects through the loop
  have stat : ∀ {H' : Hp}, (∀ b ∈ fp, H' b = none) → ∀ b ∈ fp, FpOk X pins H' b := fun hn b hb => ⟨hn b hb, (f2 b hb).2⟩
  refine codeAny_forLoop_any (fun n s' => ∃ i σ' H', Inv X pins σ' H' s' ∧ tn i s'.heap ∧ (∀ b ∈ fp, H' b = none) ∧ W i n σ' H') ?_ m0 ⟨0, σ, H2, I2, st2, fun b hb => (f2 b hb).1, w0⟩
  rintro n s3 ⟨i, σ3, H3, I3, st3, fr3, w3⟩
  rcases turn i n σ3 H3 w3 with ⟨stop, qn⟩ | ⟨go, N, hN, step⟩
  · refine wpAny_passesOwn hp (thn (T.done X rfl rfl rfl hc i pins s3 σ3 H3 X.xe I3 (stat fr3) st3 stop) fun r s4 ⟨hr, I4⟩ => ?_)
    subst hr
    exact wpAny_execs_nil ⟨σ3, H3, I4, qn⟩
  · refine wpAny_passesOwn hp (thn (T.item X rfl rfl rfl hc i pins s3 σ3 H3 X.xe I3 (stat fr3) st3 go) fun r s4 ⟨u, hr, h4⟩ => ?_)
    subst hr
    refine wpAny_passesOwn hp (thn h4 fun _ s5 ⟨x, H5, I5, r5, y5, st5, fr5⟩ => ?_)
    have I5' := I5.pinned (stat fr5) (T.obj _ _ st5)
    refine wpAny_passesOwn hp (thn (hg _ s5 σ3 H5 x u _ I5' r5 (step x H5 y5)) fun _ s6 ⟨σ6, H6, I6, q6⟩ => ?_)
    refine wpAny_passesOwn hp (thn (hb _ s6 σ6 H6 _ I6 q6) fun f s7 q7 => ?_)
    have again : ∀ {σ7 : St} {H7 : Hp}, Inv X (pins ++ pinsAt fp s5.heap) σ7 H7 s7 → N σ7 H7 → ∃ m, m < n ∧ ∃ i σ' H', Inv X pins σ' H' s7 ∧ tn i s7.heap ∧ (∀ b ∈ fp, H' b = none) ∧ W i m σ' H' := fun {σ7 H7} I7 n7 => by
      obtain ⟨m', hm, w7⟩ := hN σ7 H7 n7
      refine ⟨m', hm, i + 1, σ7, H7, I7.unpinned, T.keep _ _ _ st5 fun b hb o e => (I7.pin (b, o) (List.mem_append_right _ (List.mem_append_right _ (mem_pinsAt hb e)))).1, fun b hb => ?_, w7⟩
      obtain ⟨o, e, d⟩ := T.obj _ _ st5 b hb
      exact (I7.pin (b, o) (List.mem_append_right _ (List.mem_append_right _ (mem_pinsAt hb e)))).2.1
    cases f with
    | next => obtain ⟨σ7, H7, I7, n7⟩ := q7; exact again I7 n7
    | cont => obtain ⟨σ7, H7, I7, n7⟩ := q7; exact again I7 n7
    | brk => obtain ⟨σ7, H7, I7, q7⟩ := q7; exact ⟨σ7, H7, I7.unpinned, q7⟩
    | ret v => obtain ⟨x7, σ7, H7, I7, r7, q7⟩ := q7; exact ⟨x7, σ7, H7, I7.unpinned, r7, q7⟩
end

/-! ### the forms one uses -/
/-- over a list that the body leaves as it is -/
theorem for_list {K : PySem.W.Frag} {a : Addr} {xs : List V} {g : TG} {tb : TS} {D : Ends} {σ : St} {H : Hp} (Pv : Nat → St → Hp → Prop) (h0 : Pv 0 σ H) (hl : ∀ i σ H, i ≤ xs.length → Pv i σ H → SqL K H a xs)
    (hs : ∀ i x σ H, xs[i]? = some x → Pv i σ H → g x σ H fun σ2 H2 => tb { D with nx := Pv (i + 1), ct := Pv (i + 1), bk := D.nx } σ2 H2) (hd : ∀ σ H, Pv xs.length σ H → D.nx σ H) :
    ∃ W : Nat → Nat → St → Hp → Prop, (∃ m, W 0 m σ H) ∧ ∀ i m σ H, W i m σ H →
      ((Itl K a).stop i H ∧ D.nx σ H) ∨ ((Itl K a).go i H ∧ ∃ N : St → Hp → Prop, (∀ σ' H', N σ' H' → ∃ m', m' < m ∧ W (i + 1) m' σ' H') ∧ ∀ x H', (Itl K a).yld i H x H' → g x σ H' fun σ2 H2 => tb { D with nx := N, ct := N, bk := D.nx } σ2 H2) := by
  refine ⟨fun i m σ H => m = xs.length - i ∧ i ≤ xs.length ∧ Pv i σ H, ⟨xs.length, by simp, Nat.zero_le _, h0⟩, ?_⟩
  rintro i m σ H ⟨rfl, hi, p⟩
  have q := hl i σ H hi p
  by_cases hlt : i < xs.length
  · refine .inr ⟨⟨xs, xs[i], q, by simp [hlt]⟩, Pv (i + 1), fun σ' H' p' => ⟨xs.length - (i + 1), by omega, rfl, hlt, p'⟩, fun x H' y => ?_⟩
    obtain ⟨e, y⟩ := y
    subst e
    exact hs i x σ _ (y xs q) p
  · have e : i = xs.length := by omega
    subst e
    exact .inl ⟨⟨xs, q, Nat.le_refl _⟩, hd σ H p⟩
theorem for_range {lo : Int} {n : Nat} {g : TG} {tb : TS} {D : Ends} {σ : St} {H : Hp} (Pv : Nat → St → Hp → Prop) (h0 : Pv 0 σ H)
    (hs : ∀ i σ H, i < n → Pv i σ H → g (.int (lo + i)) σ H fun σ2 H2 => tb { D with nx := Pv (i + 1), ct := Pv (i + 1), bk := D.nx } σ2 H2) (hd : ∀ σ H, Pv n σ H → D.nx σ H) :
    ∃ W : Nat → Nat → St → Hp → Prop, (∃ m, W 0 m σ H) ∧ ∀ i m σ H, W i m σ H →
      ((Itr lo n).stop i H ∧ D.nx σ H) ∨ ((Itr lo n).go i H ∧ ∃ N : St → Hp → Prop, (∀ σ' H', N σ' H' → ∃ m', m' < m ∧ W (i + 1) m' σ' H') ∧ ∀ x H', (Itr lo n).yld i H x H' → g x σ H' fun σ2 H2 => tb { D with nx := N, ct := N, bk := D.nx } σ2 H2) := by
  refine ⟨fun i m σ H => m = n - i ∧ i ≤ n ∧ Pv i σ H, ⟨n, by simp, Nat.zero_le _, h0⟩, ?_⟩
  rintro i m σ H ⟨rfl, hi, p⟩
  by_cases hlt : i < n
  · refine .inr ⟨hlt, Pv (i + 1), fun σ' H' p' => ⟨n - (i + 1), by omega, rfl, hlt, p'⟩, fun x H' y => ?_⟩
    obtain ⟨e, y⟩ := y
    subst e y
    exact hs i σ _ hlt p
  · have e : i = n := by omega
    subst e
    exact .inl ⟨Nat.le_refl _, hd σ H p⟩
end L2

namespace L2
open PySem PySem.Spec PyProof.Rows

abbrev R2 := V → V → Hp → VK → Prop
/-- a two-place operation on values: f is binaryOp op, inplaceOp op or compareOp op -/
def OpR (X : Cx) (f : Value → Value → Sem Value) (r : R2) : Prop :=
  ∀ (pins : List (Addr × Obj)) (s : Shared) (σ : St) (H : Hp) (x y : V) (v u : Value) (Q : VK), Inv X pins σ H s → RelV x v → RelV y u → r x y H Q →
    wpAny (model X.prog X.w) X.A (f v u) (EP X pins σ Q) X.xe s
/-- a one-place operation -/
def UnR (X : Cx) (f : Value → Sem Value) (r : V → Hp → VK → Prop) : Prop :=
  ∀ (pins : List (Addr × Obj)) (s : Shared) (σ : St) (H : Hp) (x : V) (v : Value) (Q : VK), Inv X pins σ H s → RelV x v → r x H Q →
    wpAny (model X.prog X.w) X.A (f v) (EP X pins σ Q) X.xe s
/-- a call of a value that is known (a builtin, a type) with values -/
def CallR (X : Cx) (f : Value) (r : List V → Hp → VK → Prop) : Prop :=
  ∀ (pins : List (Addr × Obj)) (s : Shared) (σ : St) (H : Hp) (xs : List V) (us : List Value) (Q : VK), Inv X pins σ H s → Vals xs us → r xs H Q →
    wpAny (model X.prog X.w) X.A (call f us) (EP X pins σ Q) X.xe s
/-- a value's truth -/
def TruR (X : Cx) (r : V → Hp → (Bool → Hp → Prop) → Prop) : Prop :=
  ∀ (pins : List (Addr × Obj)) (s : Shared) (σ : St) (H : Hp) (x : V) (v : Value) (Q : Bool → Hp → Prop), Inv X pins σ H s → RelV x v → r x H Q →
    wpAny (model X.prog X.w) X.A (truthy v) (TP X pins σ Q) X.xe s

def tOp (r : R2) (ta tb : TE) : TE := fun σ H Q => ta σ H fun x H1 => tb σ H1 fun y H2 => r x y H2 Q
def tUn (r : V → Hp → VK → Prop) (ta : TE) : TE := fun σ H Q => ta σ H fun x H1 => r x H1 Q
/-- ints in, under C, and a value out -/
def rI (C : Int → Int → Prop) (g : Int → Int → V) : R2 := fun x y H Q => ∃ i j, x = .int i ∧ y = .int j ∧ C i j ∧ Q (g i j) H
def rI0 (g : Int → Int → V) : R2 := fun x y H Q => ∃ i j, x = .int i ∧ y = .int j ∧ Q (g i j) H
def rU (g : Int → V) : V → Hp → VK → Prop := fun x H Q => ∃ i, x = .int i ∧ Q (g i) H

section
variable {X : Cx} {a b c : Expr} {ta tb tc : TE} {pos : Pos}

theorem binT (ha : PE X a ta) (hb : PE X b tb) {pins : List (Addr × Obj)} {s : Shared} {σ : St} {H : Hp} {R : V → V → Hp → Prop} (I : Inv X pins σ H s)
    (h : ta σ H fun x H1 => tb σ H1 fun y H2 => R x y H2) {Q : Value → Shared → Prop} {f : Value → Value → Sem Value}
    (hf : ∀ v u s2 x y H2, Inv X pins σ H2 s2 → RelV x v → RelV y u → R x y H2 → wpAny (model X.prog X.w) X.A (f v u) Q X.xe s2) :
    wpAny (model X.prog X.w) X.A (eval a X.env) (fun v s₁ => wpAny (model X.prog X.w) X.A (eval b X.env) (fun u s₂ => wpAny (model X.prog X.w) X.A (f v u) Q X.xe s₂) X.xe s₁) X.xe s := by
  refine thn (ha pins s σ H _ I h) fun v s1 ⟨x, H1, I1, r1, q1⟩ => ?_
  refine thn (hb pins s1 σ H1 _ I1 q1) fun u s2 ⟨y, H2, I2, r2, q2⟩ => ?_
  exact hf v u s2 x y H2 I2 r1 r2 q2

theorem pe_op {op : Operator} {r : R2} (ho : OpR X (binaryOp op) r) (ha : PE X a ta) (hb : PE X b tb) : PE X (.BinOp a op b pos) (tOp r ta tb) := by
  intro pins s σ H Q I h
  exact wpAny_BinOp (binT ha hb I h fun v u s2 x y H2 I2 rx ry q => ho pins s2 σ H2 x y v u Q I2 rx ry q)
/-! ### ints -/
theorem opI {f : Value → Value → Sem Value} {C : Int → Int → Prop} {g : Int → Int → Int}
    (rule : ∀ (i j : Int) (t u : Tok) (s : Shared) (Q : Value → Shared → Prop) (E : Value → Shared → Prop), C i j → Q (.int (g i j) s.toks) { s with toks := s.toks + 1 } → wpAny (model X.prog X.w) X.A (f (.int i t) (.int j u)) Q E s) :
    OpR X f (rI C fun i j => .int (g i j)) := by
  intro pins s σ H x y v u Q I rx ry h
  obtain ⟨i, j, rfl, rfl, hc, q⟩ := h
  obtain ⟨t, rfl⟩ := rx
  obtain ⟨t', rfl⟩ := ry
  exact rule i j t t' s _ _ hc ⟨.int (g i j), H, I.tok _, ⟨_, rfl⟩, q⟩
theorem opI0 {f : Value → Value → Sem Value} {g : Int → Int → Int}
    (rule : ∀ (i j : Int) (t u : Tok) (s : Shared) (Q : Value → Shared → Prop) (E : Value → Shared → Prop), Q (.int (g i j) s.toks) { s with toks := s.toks + 1 } → wpAny (model X.prog X.w) X.A (f (.int i t) (.int j u)) Q E s) :
    OpR X f (rI0 fun i j => .int (g i j)) := by
  intro pins s σ H x y v u Q I rx ry h
  obtain ⟨i, j, rfl, rfl, q⟩ := h
  obtain ⟨t, rfl⟩ := rx
  obtain ⟨t', rfl⟩ := ry
  exact rule i j t t' s _ _ ⟨.int (g i j), H, I.tok _, ⟨_, rfl⟩, q⟩
theorem opB0 {f : Value → Value → Sem Value} {g : Int → Int → Bool}
    (rule : ∀ (i j : Int) (t u : Tok) (s : Shared) (Q : Value → Shared → Prop) (E : Value → Shared → Prop), Q (.bool (g i j)) s → wpAny (model X.prog X.w) X.A (f (.int i t) (.int j u)) Q E s) :
    OpR X f (rI0 fun i j => .bl (g i j)) := by
  intro pins s σ H x y v u Q I rx ry h
  obtain ⟨i, j, rfl, rfl, q⟩ := h
  obtain ⟨t, rfl⟩ := rx
  obtain ⟨t', rfl⟩ := ry
  exact rule i j t t' s _ _ ⟨.bl (g i j), H, I, rfl, q⟩

def CDiv (i j : Int) : Prop := 0 < j ∧ j < 1073741824
def CDivN (i j : Int) : Prop := j ≠ 0 ∧ j.natAbs < 1073741824
def CPow (i j : Int) : Prop := 0 ≤ j ∧ j ≤ 1000000 ∧ i.natAbs < 2 ^ 64
def CMul (i j : Int) : Prop := (-(2 ^ 64) < i ∧ i < 2 ^ 64) ∨ (-(2 ^ 64) < j ∧ j < 2 ^ 64)
theorem CMul.ok {i j : Int} (h : CMul i j) : IntMulOk i j := by
  rcases h with ⟨h1, h2⟩ | ⟨h1, h2⟩
  · exact .of_left (intBits_le_64 h1 h2)
  · exact .of_right (intBits_le_64 h1 h2)
theorem op_add : OpR X (binaryOp .Add) (rI0 fun i j => .int (i + j)) := opI0 fun _ _ _ _ _ _ _ q => add_int q
theorem op_sub : OpR X (binaryOp .Sub) (rI0 fun i j => .int (i - j)) := opI0 fun _ _ _ _ _ _ _ q => sub_int q
theorem op_mul : OpR X (binaryOp .Mult) (rI CMul fun i j => .int (i * j)) := opI fun _ _ _ _ _ _ _ hc q => mul_int q hc.ok
/-- // by a positive divisor -/
theorem op_fdiv : OpR X (binaryOp .FloorDiv) (rI CDiv fun i j => .int (i / j)) := opI fun i j _ _ _ _ _ hc q => by
  have h1 : (0 : Int) < j := hc.1
  have h2 : j < 1073741824 := hc.2
  exact floordiv_int (by omega) (by rw [Int.fdiv_eq_ediv_of_nonneg i (by omega)]; exact q) (.inl (PyProof.noPylong_small (by omega)))
/-- % by a positive divisor of any size -/
theorem op_mod : OpR X (binaryOp .Mod) (rI (fun _ j => 0 < j) fun i j => .int (i % j)) := opI fun i j _ _ _ _ _ hc q => by
  have h1 : (0 : Int) < j := hc
  exact mod_int' (by omega) (by rw [Int.fmod_eq_emod_of_nonneg i (by omega)]; exact q)
/-! ### bools among ints: n += (a < b) -/
end

/-! ### comparisons -/
/-- the scalars that == tells apart as data does -/
def scal : V → V → Bool
  | .non, .non => true | .non, .int _ => true | .int _, .non => true | .non, .bl _ => true | .bl _, .non => true | .non, .str _ => true | .str _, .non => true
  | .int _, .int _ => true | .bl _, .bl _ => true | .str _, .str _ => true | .byt _, .byt _ => true
  | .int _, .str _ => true | .str _, .int _ => true | .bl _, .str _ => true | .str _, .bl _ => true
  | _, _ => false
def rEq : R2 := fun x y H Q => scal x y = true ∧ Q (.bl (decide (x = y))) H
def rNe : R2 := fun x y H Q => scal x y = true ∧ Q (.bl (!decide (x = y))) H

theorem dec_int {i j : Int} : decide (V.int i = V.int j) = (i == j) := by
  rw [Bool.eq_iff_iff]
  simp
theorem dec_bl {i j : Bool} : decide (V.bl i = V.bl j) = (i == j) := by
  rw [Bool.eq_iff_iff]
  simp
theorem dec_str {i j : Str} : decide (V.str i = V.str j) = (i == j) := by
  rw [Bool.eq_iff_iff]
  simp
theorem dec_byt {i j : Array UInt8} : decide (V.byt i = V.byt j) = (i.toList == j.toList) := by
  rw [Bool.eq_iff_iff]
  cases i
  cases j
  simp

section
variable {X : Cx} {a b c : Expr} {ta tb tc : TE} {pos : Pos}
theorem fin_bl {pins : List (Addr × Obj)} {σ : St} {H : Hp} {s : Shared} {Q : VK} {k k' : Bool} (I : Inv X pins σ H s) (q : Q (.bl k) H) (e : k = k') : EP X pins σ Q (.bool k') s := by
  subst e
  exact ⟨.bl k, H, I, rfl, q⟩
theorem op_eq : OpR X (compareOp .Eq) rEq := by
  intro pins s σ H x y v u Q I rx ry h
  obtain ⟨hs, q⟩ := h
  cases x with
  | non =>
    cases rx
    cases y with
    | non => cases ry; exact PySem.EqNone.eq_none_none (fin_bl I q (by simp))
    | bl j => cases ry; exact PySem.EqNone.eq_none_bool (fin_bl I q (by simp))
    | int j => obtain ⟨t', rfl⟩ := ry; exact PySem.EqNone.eq_none_int (fin_bl I q (by simp))
    | str j => obtain ⟨t', rfl⟩ := ry; exact PySem.EqNone.eq_none_str (fin_bl I q (by simp))
    | _ => exact absurd (show false = true from hs) Bool.false_ne_true
  | bl i =>
    cases rx
    cases y with
    | non => cases ry; exact PySem.EqNone.eq_bool_none (fin_bl I q (by simp))
    | bl j => cases ry; exact eq_bool (fin_bl I q dec_bl)
    | str j => obtain ⟨t', rfl⟩ := ry; exact PySem.EqMixed.eq_bool_str (fin_bl I q (by simp))
    | _ => exact absurd (show false = true from hs) Bool.false_ne_true
  | int i =>
    obtain ⟨t, rfl⟩ := rx
    cases y with
    | non => cases ry; exact PySem.EqNone.eq_int_none (fin_bl I q (by simp))
    | int j => obtain ⟨t', rfl⟩ := ry; exact eq_int (fin_bl I q dec_int)
    | str j => obtain ⟨t', rfl⟩ := ry; exact PySem.EqMixed.eq_int_str (fin_bl I q (by simp))
    | _ => exact absurd (show false = true from hs) Bool.false_ne_true
  | str i =>
    obtain ⟨t, rfl⟩ := rx
    cases y with
    | non => cases ry; exact PySem.EqNone.eq_str_none (fin_bl I q (by simp))
    | bl j => cases ry; exact PySem.EqMixed.eq_str_bool (fin_bl I q (by simp))
    | int j => obtain ⟨t', rfl⟩ := ry; exact PySem.EqMixed.eq_str_int (fin_bl I q (by simp))
    | str j => obtain ⟨t', rfl⟩ := ry; exact eq_str (fin_bl I q dec_str)
    | _ => exact absurd (show false = true from hs) Bool.false_ne_true
  | byt i =>
    obtain ⟨t, rfl⟩ := rx
    cases y with
    | byt j => obtain ⟨t', rfl⟩ := ry; exact PySem.W.eq_bytes (fin_bl I q dec_byt)
    | _ => exact absurd (show false = true from hs) Bool.false_ne_true
  | _ => cases y <;> exact absurd (show false = true from hs) Bool.false_ne_true
theorem op_ne : OpR X (compareOp .NotEq) rNe := by
  intro pins s σ H x y v u Q I rx ry h
  obtain ⟨hs, q⟩ := h
  cases x with
  | non =>
    cases rx
    cases y with
    | non => cases ry; exact PySem.EqNone.ne_none_none (fin_bl I q (by simp))
    | bl j => cases ry; exact PySem.EqNone.ne_none_bool (fin_bl I q (by simp))
    | int j => obtain ⟨t', rfl⟩ := ry; exact PySem.EqNone.ne_none_int (fin_bl I q (by simp))
    | str j => obtain ⟨t', rfl⟩ := ry; exact PySem.EqNone.ne_none_str (fin_bl I q (by simp))
    | _ => exact absurd (show false = true from hs) Bool.false_ne_true
  | bl i =>
    cases rx
    cases y with
    | non => cases ry; exact PySem.EqNone.ne_bool_none (fin_bl I q (by simp))
    | bl j => cases ry; exact ne_bool (fin_bl I q (congrArg not dec_bl))
    | str j => obtain ⟨t', rfl⟩ := ry; exact PySem.EqMixed.ne_bool_str (fin_bl I q (by simp))
    | _ => exact absurd (show false = true from hs) Bool.false_ne_true
  | int i =>
    obtain ⟨t, rfl⟩ := rx
    cases y with
    | non => cases ry; exact PySem.EqNone.ne_int_none (fin_bl I q (by simp))
    | int j => obtain ⟨t', rfl⟩ := ry; exact ne_int (fin_bl I q (congrArg not dec_int))
    | str j => obtain ⟨t', rfl⟩ := ry; exact PySem.EqMixed.ne_int_str (fin_bl I q (by simp))
    | _ => exact absurd (show false = true from hs) Bool.false_ne_true
  | str i =>
    obtain ⟨t, rfl⟩ := rx
    cases y with
    | non => cases ry; exact PySem.EqNone.ne_str_none (fin_bl I q (by simp))
    | bl j => cases ry; exact PySem.EqMixed.ne_str_bool (fin_bl I q (by simp))
    | int j => obtain ⟨t', rfl⟩ := ry; exact PySem.EqMixed.ne_str_int (fin_bl I q (by simp))
    | str j => obtain ⟨t', rfl⟩ := ry; exact ne_str (fin_bl I q (congrArg not dec_str))
    | _ => exact absurd (show false = true from hs) Bool.false_ne_true
  | byt i =>
    obtain ⟨t, rfl⟩ := rx
    cases y with
    | byt j => obtain ⟨t', rfl⟩ := ry; exact PySem.W.ne_bytes (fin_bl I q (congrArg not dec_byt))
    | _ => exact absurd (show false = true from hs) Bool.false_ne_true
  | _ => cases y <;> exact absurd (show false = true from hs) Bool.false_ne_true

theorem op_lt : OpR X (compareOp .Lt) (rI0 fun i j => .bl (decide (i < j))) := opB0 fun _ _ _ _ _ _ _ q => lt_int q
theorem op_le : OpR X (compareOp .LtE) (rI0 fun i j => .bl (decide (i ≤ j))) := opB0 fun _ _ _ _ _ _ _ q => le_int q
theorem op_gt : OpR X (compareOp .Gt) (rI0 fun i j => .bl (decide (j < i))) := opB0 fun _ _ _ _ _ _ _ q => gt_int q
theorem op_ge : OpR X (compareOp .GtE) (rI0 fun i j => .bl (decide (j ≤ i))) := opB0 fun _ _ _ _ _ _ _ q => ge_int q
/-- is, is not of two objects that are tracked lists or instances -/
def isObj : HO → Bool
  | .lst _ => true
  | .ins _ _ _ => true
  | _ => false
theorem nomark (b : Expr) {op : CmpOp} (h : op ≠ .In := by decide) (h2 : op ≠ .NotIn := by decide) : behindInMarks op b = false := by
  have e1 : (op == CmpOp.In) = false := by cases op <;> first | rfl | exact absurd rfl h
  have e2 : (op == CmpOp.NotIn) = false := by cases op <;> first | rfl | exact absurd rfl h2
  cases b <;> simp [behindInMarks, e1, e2]
/-- a comparison as a value; hm: nomark b, or (for in, not in) by with_unfolding_all rfl -/
theorem pe_cmpR {op : CmpOp} {r : R2} (ho : OpR X (compareOp op) r) (ha : PE X a ta) (hb : PE X b tb) (hm : behindInMarks op b = false) : PE X (.Compare a [op] [b] pos) (tOp r ta tb) := by
  intro pins s σ H Q I h
  exact wpAny_Compare1 (binT ha hb I h fun v u s2 x y H2 I2 rx ry q => ho pins s2 σ H2 x y v u Q I2 rx ry q) hm
/-- a reading of a value as a test -/
def tTest (t : TE) : TT := fun σ H Q => t σ H fun x H' => ∃ k, x = .bl k ∧ Q k H'
theorem pt_cmpR {op : CmpOp} {r : R2} (ho : OpR X (compareOp op) r) (ha : PE X a ta) (hb : PE X b tb) (hm : behindInMarks op b = false) : PT X (.Compare a [op] [b] pos) (tTest (tOp r ta tb)) := by
  intro pins s σ H Q I h
  refine wpAny_isTrue_Compare1 (thn (ha pins s σ H _ I h) fun v s1 ⟨x, H1, I1, r1, q1⟩ => thn (hb pins s1 σ H1 _ I1 q1) fun u s2 ⟨y, H2, I2, r2, q2⟩ =>
    thn (ho pins s2 σ H2 x y v u _ I2 r1 r2 q2) fun c s3 ⟨z, H3, I3, r3, k, e, q3⟩ => ?_) hm
  subst e
  cases r3
  exact wpAny_truthy_bool ⟨H3, I3, q3⟩
/-- a op1 b op2 c -/
def tChain (r r' : R2) (ta tb tc : TE) : TE := fun σ H Q => ta σ H fun x H1 => tb σ H1 fun y H2 => r x y H2 fun z H3 => ∃ k, z = .bl k ∧
  (if k = true then tc σ H3 fun w' H4 => r' y w' H4 Q else Q (.bl false) H3)
theorem pe_chain {op op' : CmpOp} {r r' : R2} (ho : OpR X (compareOp op) r) (ho' : OpR X (compareOp op') r') (ha : PE X a ta) (hb : PE X b tb) (hc : PE X c tc)
    (hm : lastMarks [op, op'] [b, c] = false := by with_unfolding_all rfl) : PE X (.Compare a [op, op'] [b, c] pos) (tChain r r' ta tb tc) := by
  intro pins s σ H Q I h
  refine Compare_chain (thn (ha pins s σ H _ I h) fun v s1 ⟨x, H1, I1, r1, q1⟩ => chain_link (thn (hb pins s1 σ H1 _ I1 q1) fun u s2 ⟨y, H2, I2, r2, q2⟩ =>
    thn (ho pins s2 σ H2 x y v u _ I2 r1 r2 q2) fun d s3 ⟨z, H3, I3, r3, k, e, q3⟩ => ?_)) hm
  subst e
  cases r3
  refine wpAny_truthy_bool ?_
  cases k with
  | false => exact ite_ff ⟨.bl false, H3, I3, rfl, q3⟩
  | true => exact ite_tt (chain_last (thn (hc pins s3 σ H3 _ I3 q3) fun w' s4 ⟨z', H4, I4, r4, q4⟩ => ho' pins s4 σ H4 y z' u w' Q I4 r2 r4 q4))
theorem pt_chain {op op' : CmpOp} {r r' : R2} (ho : OpR X (compareOp op) r) (ho' : OpR X (compareOp op') r') (ha : PE X a ta) (hb : PE X b tb) (hc : PE X c tc)
    (hm : lastMarks [op, op'] [b, c] = false := by with_unfolding_all rfl) : PT X (.Compare a [op, op'] [b, c] pos) (tTest (tChain r r' ta tb tc)) := by
  intro pins s σ H Q I h
  refine isTrue_chain (thn (ha pins s σ H _ I h) fun v s1 ⟨x, H1, I1, r1, q1⟩ => test_link (thn (hb pins s1 σ H1 _ I1 q1) fun u s2 ⟨y, H2, I2, r2, q2⟩ =>
    thn (ho pins s2 σ H2 x y v u _ I2 r1 r2 q2) fun d s3 ⟨z, H3, I3, r3, k, e, q3⟩ => ?_)) hm
  subst e
  cases r3
  refine wpAny_truthy_bool ?_
  cases k with
  | false =>
    obtain ⟨k', e', q'⟩ := q3
    cases e'
    exact ite_ff ⟨H3, I3, q'⟩
  | true =>
    refine ite_tt (test_last (thn (hc pins s3 σ H3 _ I3 q3) fun w' s4 ⟨z', H4, I4, r4, q4⟩ => thn (ho' pins s4 σ H4 y z' u w' _ I4 r2 r4 q4) fun d' s5 ⟨z2, H5, I5, r5, k2, e2, q5⟩ => ?_))
    subst e2
    cases r5
    exact wpAny_truthy_bool ⟨H5, I5, q5⟩

/-! ### truth -/
/-- a value's truth by the abstract heap -/
def TruV (K : PySem.W.Frag) (x : V) (H : Hp) (k : Bool) : Prop :=
  match x with
  | .non => k = false
  | .bl b => k = b
  | .int i => k = (i != 0)
  | .str y => y.length ≤ sizeLine ∧ k = ((y.length : Int) != 0)
  | .byt y => y.size ≤ sizeLine ∧ k = ((y.size : Int) != 0)
  | .ref p => (∃ xs, SqL K H p xs ∧ k = !xs.isEmpty) ∨ (∃ xs, SqT K H p xs ∧ k = !xs.isEmpty) ∨ ∃ kvs, H p = some (.dK kvs) ∧ k = !kvs.isEmpty
  | _ => False
theorem line63 : (sizeLine : Nat) < 2 ^ 63 := by rw [sizeLine_eq]; decide
/-! ### strs and bytes -/
def PlainIxT (b : Expr) : Prop := ∀ o i, subscripted b false o i = operate [o, i] (getItem o i)
/-! ### scalar builtins, by CallR -/
theorem vals1 {x : V} {us : List Value} (r : Vals [x] us) : ∃ u, us = [u] ∧ RelV x u := by
  cases r with
  | cons r1 r2 => cases r2; exact ⟨_, rfl, r1⟩
theorem vals2 {x y : V} {us : List Value} (r : Vals [x, y] us) : ∃ u w', us = [u, w'] ∧ RelV x u ∧ RelV y w' := by
  cases r with
  | cons r1 r2 =>
    cases r2 with
    | cons r3 r4 => cases r4; exact ⟨_, _, rfl, r1, r3⟩
theorem call_max2 (hc : X.calm = true) : CallR X (.builtin "max") (fun xs H Q => ∃ i j, xs = [.int i, .int j] ∧ Q (.int (if j > i then j else i)) H) := by
  intro pins s σ H xs us Q I r h
  obtain ⟨i, j, rfl, q⟩ := h
  obtain ⟨u, w', rfl, ⟨t, rfl⟩, ⟨t', rfl⟩⟩ := vals2 r
  refine max_two_ints (I.ok.hd hc) fun h' tk k => ⟨_, H, I.kept k, ?_, q⟩
  by_cases hj : j > i
  · rw [if_pos hj, if_pos hj]; exact ⟨_, rfl⟩
  · rw [if_neg hj, if_neg hj]; exact ⟨_, rfl⟩
/-- len of a str, a bytes, a list, a tuple -/
def LenV (K : PySem.W.Frag) (x : V) (H : Hp) (n : Nat) : Prop :=
  match x with
  | .str y => y.length ≤ sizeLine ∧ n = y.length
  | .byt y => y.size ≤ sizeLine ∧ n = y.size
  | .ref p => (∃ xs, SqL K H p xs ∧ n = xs.length) ∨ ∃ xs, SqT K H p xs ∧ n = xs.length
  | _ => False
end
end L2

namespace L2
open PySem PySem.Spec PyProof.Rows

/-! ### an instance, its attributes a map -/
structure ObjM (h : Heap) (x dx C : Addr) (mA : Str → Option Value) : Prop where
  obj : h.get? x = some (PySem.W.instObj C dx)
  ns : h.Ns1 dx mA
  ne : dx ≠ x

theorem lookIn_ns {h : Heap} {dx : Addr} {mA : Str → Option Value} (n : h.Ns1 dx mA) : ∃ od, h.get? dx = some od ∧ ∀ name, PySem.W.lookIn name od = some (mA name) := by
  obtain ⟨o, es, ep, ho, hd, hk, _, hm⟩ := n
  refine ⟨o, ho, fun name => ?_⟩
  have e := hm name
  unfold nsFind findBy at e
  rw [← Array.find?_toList] at e
  unfold PySem.W.lookIn
  rw [hd]
  dsimp only
  split
  · rename_i y q
    rw [q] at e
    exact congrArg some e
  · rename_i q
    rw [q] at e
    have a : es.toList.any (·.refKey) = false := by
      rw [List.any_eq_false]
      intro y hy
      obtain ⟨z, t, hkey⟩ := hk y (Array.mem_toList_iff.mp hy)
      simp [DictEntry.refKey, hkey]
    have a' : ¬ es.toList.any (·.refKey) = true := by rw [a]; exact Bool.false_ne_true
    rw [if_neg a']
    exact congrArg some e

theorem ObjM.look {h : Heap} {x dx C : Addr} {mA : Str → Option Value} (I : ObjM h x dx C mA) : ∃ od, PySem.W.InstAt h x (PySem.W.instObj C dx) C (some od) ∧ ∀ name, PySem.W.lookIn name od = some (mA name) :=
  let ⟨od, ho, hl⟩ := lookIn_ns I.ns
  ⟨od, ⟨I.obj, rfl, rfl, ho⟩, hl⟩

section
variable {prog : Program} {w : World} {A : Around} {E : Value → Shared → Prop} {s : Shared} {K : PySem.W.Frag} {x dx C f : Addr} {mA : Str → Option Value} {name : Str} {v : Value}

theorem get_map {expr : Bool} {Q : Value → Shared → Prop} (X : K.In s.heap) (I : ObjM s.heap x dx C mA) (hg : PySem.W.plainGet K C name = true) (hh : PySem.W.hasDictIn K C = true)
    (ha : PySem.W.findIn K (.ref C) name = some none) (hv : mA name = some v) (hv' : PySem.W.handedIn v = true) (h : Q v { s with toks := s.toks + 1 }) :
    wpAny (model prog w) A (getAttr (.ref x) name expr) Q E s := by
  obtain ⟨od, J, hl⟩ := I.look
  exact PySem.W.get_value X J (PySem.W.plainGet_of hg).1 (PySem.W.findObj_own hh ha rfl (by rw [hl, hv])) hv' h

theorem get_meth {pl : Sem Bool} {Q : Value × List Value → Shared → Prop} (X : K.In s.heap) (I : ObjM s.heap x dx C mA) (hg : PySem.W.plainGet K C name = true)
    (hf : PySem.W.findIn K (.ref C) name = some (some (.ref f))) (ht : PySem.W.isFn K (.ref f) = true) (hv : mA name = none) (h : Q (.ref f, [.ref x]) s) :
    wpAny (model prog w) A (getMethod (.ref x) name pl) Q E s := by
  obtain ⟨od, J, hl⟩ := I.look
  exact PySem.W.method_fn X J (PySem.W.plainGet_of hg).1 (PySem.W.plainGet_of hg).2 hf (beq_iff_eq.mp ht) (by show (PySem.W.lookIn name od).map (·.isSome) = some false; rw [hl, hv]; rfl) h

theorem set_map {ns : List Str} {Q : Unit → Shared → Prop} (X : K.In s.heap) (I : ObjM s.heap x dx C mA)
    (hs : PySem.W.findIn K (.ref C) "__setattr__" = some (some (.builtin "object.__setattr__"))) (hp : PySem.W.plainOver K C = true) (ht : PySem.W.takerIn K C name = some none) (hh : PySem.W.hasDictIn K C = true)
    (hw : PySem.Within mA ns) (hsz : ns.length ≤ sizeLine)
    (h : ∀ h', ObjM h' x dx C (fun y => if y = name then some v else mA y) → Heap.SameBut dx s.heap h' → Q () { s with heap := h', toks := s.toks + 2 }) :
    wpAny (model prog w) A (setAttr (.ref x) name v) Q E s := by
  obtain ⟨od, J, hl⟩ := I.look
  refine PySem.W.set_plain X J hs (PySem.W.osa_open (s := { s with toks := s.toks + 1 }) (r := none) X J hp ht fun b => ?_)
  obtain ⟨cd, hc, hd'⟩ := PySem.W.any_some hh
  have hx : s.heap.get? x = some ⟨.ref C, some dx, .plain, #[]⟩ := I.obj
  refine wpAny_bind (wpAny_pure (wpAny_bind (wpAny_bind (wpAny_loadPart hx (wpAny_bind (PySem.W.Looks.here (s := { s with toks := s.toks + 1 }) (PySem.W.looks_clsIn X hc) ?_))))))
  rw [hd']
  refine wpAny_pure (a := some dx) (wpAny_bind (wpAny_pure (wpAny_bind ?_)))
  refine wpAny_nsSet1 (s := { s with toks := s.toks + 1 }) I.ns fun h' hn2 hs2 => ?_
  obtain ⟨oD, esD, epD, hoD, hdD, hcD⟩ := hn2.count (PySem.Within.cons name v hw)
  refine wpAny_bind (wpAny_lookBehind hoD (by rw [hdD]; exact pastItsLine_dict (Nat.le_trans hcD (by rw [List.length_cons]; omega))) ?_)
  exact wpAny_pure (h _ ⟨(hs2.2 _ (Ne.symm I.ne)).trans I.obj, hn2, I.ne⟩ hs2)

/-- C(..): the dict at the heap's end, the instance behind it; then its __init__ -/
theorem make_map {R : Result → Shared → Prop} {vs : List Value} {kw : List (Str × Value)} (X : K.In s.heap) (hm : PySem.W.makesIn K C = true)
    (hi : PySem.W.findIn K (.ref C) "__init__" = some (some (.ref f))) (hf : PySem.W.typeIn K (.ref f) = some (.type "function"))
    (h : codeAny (model prog w) (A.under (.builtin "type.__call__" ⟨.ref C :: vs, kw⟩)) (.call (.ref f) ⟨.ref (s.heap.objs.size + 1) :: vs, kw⟩) (PySem.W.InitBack (s.heap.objs.size + 1) R)
      { s with heap := (s.heap.push PySem.W.emptyDict).push (PySem.W.instObj C s.heap.objs.size) }) :
    codeAny (model prog w) A (.call (.ref C) ⟨vs, kw⟩) R s := by
  obtain ⟨hh, g, d, t, os⟩ := s
  exact PySem.W.make_core (PySem.W.makes_of X hm) (PySem.W.looks_findIn X hi) (fun self => PySem.W.bind_fn X self hf) (.inl rfl) h
end

/-! ### the attributes as a list of pairs -/
def putF (f : Str) (v : V) : List (Str × V) → List (Str × V)
  | [] => [(f, v)]
  | (g, x) :: r => if g = f then (g, v) :: r else (g, x) :: putF f v r
theorem lookup_putF (f g : Str) (v : V) : ∀ fs : List (Str × V), (putF f v fs).lookup g = if g = f then some v else fs.lookup g
  | [] => by
    show List.lookup g [(f, v)] = _
    by_cases h : g = f
    · have hb : (g == f) = true := beq_iff_eq.mpr h
      simp only [List.lookup, hb, if_pos h]
    · have hb : (g == f) = false := beq_eq_false_iff_ne.mpr h
      simp only [List.lookup, hb, if_neg h]
  | (k, x) :: r => by
    have ih := lookup_putF f g v r
    rw [show putF f v ((k, x) :: r) = (if k = f then (k, v) :: r else (k, x) :: putF f v r) from rfl]
    by_cases hk : k = f
    · rw [if_pos hk]
      by_cases h : g = k
      · have hb : (g == k) = true := beq_iff_eq.mpr h
        simp only [List.lookup, hb, if_pos (h.trans hk)]
      · have hb : (g == k) = false := beq_eq_false_iff_ne.mpr h
        simp only [List.lookup, hb, if_neg (fun e : g = f => h (e.trans hk.symm))]
    · rw [if_neg hk]
      by_cases h : g = k
      · have hb : (g == k) = true := beq_iff_eq.mpr h
        simp only [List.lookup, hb, if_neg (fun e : g = f => hk (h.symm.trans e))]
      · have hb : (g == k) = false := beq_eq_false_iff_ne.mpr h
        simp only [List.lookup, hb]
        exact ih
theorem keys_putF (f : Str) (v : V) : ∀ fs : List (Str × V), f ∈ (putF f v fs).map (·.1) ∧ ∀ g, g ∈ fs.map (·.1) → g ∈ (putF f v fs).map (·.1)
  | [] => ⟨by simp [putF], fun g h => by simp at h⟩
  | (k, x) :: r => by
    obtain ⟨i1, i2⟩ := keys_putF f v r
    rw [show putF f v ((k, x) :: r) = (if k = f then (k, v) :: r else (k, x) :: putF f v r) from rfl]
    by_cases hk : k = f
    · rw [if_pos hk]
      subst hk
      exact ⟨by simp, fun g h => by simpa using h⟩
    · rw [if_neg hk]
      refine ⟨?_, fun g h => ?_⟩
      · rw [List.map_cons]
        exact List.mem_cons_of_mem _ i1
      · rw [List.map_cons] at h ⊢
        rcases List.mem_cons.mp h with e | e
        · exact List.mem_cons.mpr (.inl e)
        · exact List.mem_cons_of_mem _ (i2 g e)
theorem length_putF (f : Str) (v : V) : ∀ fs : List (Str × V), (putF f v fs).length ≤ fs.length + 1
  | [] => by simp [putF]
  | (k, x) :: r => by
    have ih := length_putF f v r
    rw [show putF f v ((k, x) :: r) = (if k = f then (k, v) :: r else (k, x) :: putF f v r) from rfl]
    by_cases hk : k = f
    · rw [if_pos hk, List.length_cons, List.length_cons]; omega
    · rw [if_neg hk, List.length_cons, List.length_cons]; omega

theorem RelO.some_of {v : V} {o : Option Value} (r : RelO (some v) o) : ∃ u, o = some u ∧ RelV v u := by
  cases o with
  | none => exact (show False from r).elim
  | some u => exact ⟨u, rfl, r⟩
theorem RelO.none_of {o : Option Value} (r : RelO none o) : o = none := by
  cases o with
  | none => rfl
  | some u => exact (show False from r).elim
theorem handed_of {v : V} {u : Value} (r : RelV v u) : PySem.W.handedIn u = true := by
  cases v with
  | non => cases (show u = Value.none from r); rfl
  | bl b => cases (show u = Value.bool b from r); rfl
  | int i => obtain ⟨t, e⟩ := (show ∃ t, u = Value.int i t from r); cases e; rfl
  | str x => obtain ⟨t, e⟩ := (show ∃ t, u = Value.str x t from r); cases e; rfl
  | byt b => obtain ⟨t, e⟩ := (show ∃ t, u = Value.bytes b t from r); cases e; rfl
  | flt b => obtain ⟨t, e⟩ := (show ∃ t, u = Value.float b t from r); cases e; rfl
  | ref a => cases (show u = Value.ref a from r); rfl
  | ty n => cases (show u = Value.type n from r); rfl

section
variable {P : Program} {w : World} {H H' : Hp} {h h' : Heap} {a C dx : Addr} {fs fs' : List (Str × V)}
theorem ins_get (hok : HOk P w H h) (e : H a = some (.ins C dx fs)) : ∃ mA, ObjM h a dx C mA ∧ (∀ f, RelO (fs.lookup f) (mA f)) ∧ PySem.Within mA (fs.map (·.1)) ∧ fs.length ≤ 1000 ∧ H dx = some (.own a) := by
  obtain ⟨d, z, ne, ob, mA, n, r, q⟩ := (show ObjOk P w H h a (.ins C dx fs) from hok a _ e)
  exact ⟨mA, ⟨ob, n, ne⟩, r, q, z, d⟩
end

/-! ### what of the text a class must have -/
structure Cls (K : PySem.W.Frag) (C : Addr) : Prop where
  pg : PySem.W.plainGet K C Str.empty = true
  hd : PySem.W.hasDictIn K C = true
  po : PySem.W.plainOver K C = true
  sa : PySem.W.findIn K (.ref C) "__setattr__" = some (some (.builtin "object.__setattr__"))
theorem Cls.get {K : PySem.W.Frag} {C : Addr} (c : Cls K C) (f : Str) : PySem.W.plainGet K C f = true := c.pg
/-- no class of it has the name -/
def NoAttr (K : PySem.W.Frag) (C : Addr) (f : Str) : Prop := PySem.W.findIn K (.ref C) f = some none
theorem NoAttr.taker {K : PySem.W.Frag} {C : Addr} {f : Str} (n : NoAttr K C f) : PySem.W.takerIn K C f = some none := by
  unfold PySem.W.takerIn
  rw [show PySem.W.findIn K (.ref C) f = some none from n]
  rfl
/-- a constant of the class -/
structure Con (K : PySem.W.Frag) (C : Addr) (f : Str) (v : V) (u : Value) : Prop where
  at_ : PySem.W.findIn K (.ref C) f = some (some u)
  rel : RelV v u
  get : PySem.W.specialIn K u "__get__" = some none
  cp : PySem.W.copiedNames.contains f = false
/-- a method: a plain def of the class or of one above it -/
structure Meth (K : PySem.W.Frag) (C : Addr) (m : Str) (f : Addr) : Prop where
  at_ : PySem.W.findIn K (.ref C) m = some (some (.ref f))
  fn : PySem.W.isFn K (.ref f) = true
  kp : PySem.W.keepIn K (.ref f) = true

section
variable {X : Cx} {pins : List (Addr × Obj)} {σ : St} {H : Hp} {s : Shared} {a C dx : Addr} {fs : List (Str × V)} {f : Str} {v : V} {A : Around} {E : Value → Shared → Prop}

theorem getattr_ok {b : Bool} {Q : Value → Shared → Prop} (I : Inv X pins σ H s) (e : H a = some (.ins C dx fs)) (c : Cls X.K C) (n : NoAttr X.K C f) (l : fs.lookup f = some v)
    (h : ∀ u s', Inv X pins σ H s' → RelV v u → Q u s') : wpAny (model X.prog X.w) A (getAttr (.ref a) f b) Q E s := by
  obtain ⟨mA, O, r, _, _, _⟩ := ins_get I.hok e
  obtain ⟨u, hu, ru⟩ := RelO.some_of (v := v) (o := mA f) (by rw [← l]; exact r f)
  exact get_map I.kIn O (c.get f) c.hd n hu (handed_of ru) (h u _ (I.tok _) ru)

theorem getmeth_ok {m : Str} {g : Addr} {pl : Sem Bool} {Q : Value × List Value → Shared → Prop} (I : Inv X pins σ H s) (e : H a = some (.ins C dx fs)) (c : Cls X.K C) (k : Meth X.K C m g) (l : fs.lookup m = none)
    (h : Q (.ref g, [.ref a]) s) : wpAny (model X.prog X.w) A (getMethod (.ref a) m pl) Q E s := by
  obtain ⟨mA, O, r, _, _, _⟩ := ins_get I.hok e
  have hn : mA m = none := RelO.none_of (by rw [← l]; exact r m)
  exact get_meth I.kIn O (c.get m) k.at_ k.fn hn h

theorem setattr_ok {y : V} {u : Value} {Q : Unit → Shared → Prop} (I : Inv X pins σ H s) (e : H a = some (.ins C dx fs)) (c : Cls X.K C) (n : NoAttr X.K C f) (hl : fs.length < 1000) (ry : RelV y u)
    (h : ∀ s', Inv X pins σ (upd H a (.ins C dx (putF f y fs))) s' → Q () s') : wpAny (model X.prog X.w) A (setAttr (.ref a) f u) Q E s := by
  obtain ⟨mA, O, r, wi, _, ho⟩ := ins_get I.hok e
  have hz : (fs.map (·.1)).length ≤ sizeLine := by rw [List.length_map, sizeLine_eq]; omega
  refine set_map I.kIn O c.sa c.po n.taker c.hd wi hz fun h' O' sb => h _ ?_
  have hd : ∃ o, h'.get? dx = some o := let ⟨o, _, _, e', _⟩ := O'.ns; ⟨o, e'⟩
  refine I.write (x := a) (e := dx) (by rw [e]; exact True.intro) (.inr ho) (fun b q hb z => (sb.2 b hb).trans z) hd ?_
  refine ⟨by rw [upd_ne O.ne]; exact ho, ?_, O.ne, O'.obj, _, O'.ns, fun g => ?_, fun g hg => ?_⟩
  · have := length_putF f y fs; omega
  · show RelO ((putF f y fs).lookup g) (if g = f then some u else mA g)
    rw [lookup_putF]
    by_cases q : g = f
    · rw [if_pos q, if_pos q]; exact ry
    · rw [if_neg q, if_neg q]; exact r g
  · by_cases q : g = f
    · rw [q]; exact (keys_putF f y fs).1
    · refine (keys_putF f y fs).2 g (wi g fun z => hg ?_)
      show (if g = f then some u else mA g) = none
      rw [if_neg q]; exact z

/-- a new instance, tracked, without attributes -/
theorem Inv.made (I : Inv X pins σ H s) : Inv X pins σ (upd (upd H s.heap.objs.size (.own (s.heap.objs.size + 1))) (s.heap.objs.size + 1) (.ins C s.heap.objs.size []))
    { s with heap := (s.heap.push PySem.W.emptyDict).push (PySem.W.instObj C s.heap.objs.size) } := by
  have e1 : (s.heap.push PySem.W.emptyDict).get? s.heap.objs.size = some PySem.W.emptyDict := Heap.get?_push_size s.heap rfl
  have e2 : ((s.heap.push PySem.W.emptyDict).push (PySem.W.instObj C s.heap.objs.size)).get? (s.heap.objs.size + 1) = some (PySem.W.instObj C s.heap.objs.size) := by
    have := Heap.get?_push_size (s.heap.push PySem.W.emptyDict) (o := PySem.W.instObj C s.heap.objs.size) rfl
    rwa [Heap.size_push] at this
  have e3 : (s.heap.push PySem.W.emptyDict).Ns s.heap.objs.size (fun _ => none) := ⟨PySem.W.emptyDict, #[], _, e1, rfl, (fun e he => absurd he (by simp)), fun _ => rfl⟩
  have I1 := I.laid (a := s.heap.objs.size) (o := .own (s.heap.objs.size + 1)) (h' := s.heap.push PySem.W.emptyDict) (t' := s.toks) (fun b u q => Heap.get?_push_of_some _ q) (Nat.le_refl _) ⟨_, e1⟩
  refine I1.laid (a := s.heap.objs.size + 1) (o := .ins C s.heap.objs.size []) (t' := s.toks) (fun b u q => Heap.get?_push_of_some _ q) (Nat.le_of_eq (Heap.size_push _ _)) ?_
  have ne : s.heap.objs.size ≠ s.heap.objs.size + 1 := Nat.ne_of_lt (Nat.lt_succ_self _)
  refine ⟨by rw [upd_ne ne, upd_same], Nat.zero_le _, ne, e2, fun _ => none, (Heap.Ns1.of_empty e3).at fun o q => Heap.get?_push_of_some _ q, fun _ => True.intro, fun y hy => absurd rfl hy⟩

/-- e.f where nothing but the object is asked: through attributeBase (super) and the last hold -/
theorem attr_of {prog : Program} {w : World} {env : Env} {e : Expr} {f : Str} {pos : Pos} {s : Shared} {Q : Value → Shared → Prop} (hb : attributeBase e f env (eval e env) = eval e env)
    (h : wpAny (model prog w) A (eval e env) (fun o s₁ => wpAny (model prog w) A (getAttr o f true) Q E s₁) E s) : wpAny (model prog w) A (eval (.Attribute e f pos) env) Q E s :=
  Attribute_any_ h (by rw [arm_eval_Attribute, hb])
end

/-! ### readings and rules -/
/-- e.f, an attribute of the instance -/
def tFld (K : PySem.W.Frag) (ta : TE) (f : Str) : TE := fun σ H Q => ta σ H fun x H1 => ∃ a C dx fs v, x = .ref a ∧ H1 a = some (.ins C dx fs) ∧ Cls K C ∧ NoAttr K C f ∧ fs.lookup f = some v ∧ Q v H1
/-- e.f, a constant of the class -/
def tCon (K : PySem.W.Frag) (ta : TE) (f : Str) : TE := fun σ H Q => ta σ H fun x H1 => ∃ a C dx fs v u, x = .ref a ∧ H1 a = some (.ins C dx fs) ∧ Cls K C ∧ Con K C f v u ∧ fs.lookup f = none ∧ Q v H1
/-- e.f = value -/
def sFld (K : PySem.W.Frag) (ta tv : TE) (f : Str) : TS := fun D σ H => tv σ H fun y H1 => ta σ H1 fun x H2 => ∃ a C dx fs, x = .ref a ∧ H2 a = some (.ins C dx fs) ∧ Cls K C ∧ NoAttr K C f ∧ fs.length < 1000 ∧
  D.nx σ (upd H2 a (.ins C dx (putF f y fs)))
/-- an augmented operator on two values -/
def InOp (X : Cx) (op : Operator) (rd : V → V → Hp → VK → Prop) : Prop :=
  ∀ (pins : List (Addr × Obj)) (s : Shared) (σ : St) (H : Hp) (x y : V) (u v : Value) (Q : VK), Inv X pins σ H s → RelV x u → RelV y v → rd x y H Q → wpAny (model X.prog X.w) X.A (inplaceOp op u v) (EP X pins σ Q) X.xe s
/-- e.f op= value -/
def sFldAug (K : PySem.W.Frag) (ta tv : TE) (rd : V → V → Hp → VK → Prop) (f : Str) : TS := fun D σ H => ta σ H fun x H1 => ∃ a C dx fs v, x = .ref a ∧ H1 a = some (.ins C dx fs) ∧ Cls K C ∧ NoAttr K C f ∧ fs.lookup f = some v ∧
  tv σ H1 fun y H2 => rd v y H2 fun z H3 => ∃ dx' fs', H3 a = some (.ins C dx' fs') ∧ fs'.length < 1000 ∧ D.nx σ (upd H3 a (.ins C dx' (putF f z fs')))

section
variable {X : Cx} {o e value : Expr} {f : Str} {pos pos' tpos : Pos} {ta tv : TE}
theorem pe_fld (he : PE X e ta) (hb : attributeBase e f X.env (eval e X.env) = eval e X.env) : PE X (.Attribute e f pos) (tFld X.K ta f) := by
  intro pins s σ H Q I h
  refine attr_of hb (thn (he pins s σ H _ I h) fun u s1 ⟨x, H1, I1, rx, a, C, dx, fs, v, ex, ea, c, n, l, q⟩ => ?_)
  subst ex
  obtain rfl : u = Value.ref a := rx
  exact getattr_ok I1 ea c n l fun u' s2 I2 ru => ⟨v, H1, I2, ru, q⟩
theorem ps_fld (ha : PE X o ta) (hv : PE X value tv) (hs : swapsWith value (some (.Attribute o f pos')) pos.line X.env = pure false) : PS X (.Assign [.Attribute o f pos'] value pos) (sFld X.K ta tv f) := by
  intro pins s σ H D I h
  refine plainObj_wpAny_Assign_Attribute (thn (hv pins s σ H _ I h) fun u s1 ⟨y, H1, I1, ry, q⟩ => thn (ha pins s1 σ H1 _ I1 q) fun ov s2 ⟨x, H2, I2, rx, a, C, dx, fs, ex, ea, c, n, l, q2⟩ => ?_) hs
  subst ex
  obtain rfl : ov = Value.ref a := rx
  exact setattr_ok I2 ea c n l ry fun s3 I3 => ⟨σ, _, I3, q2⟩
def rAdd : V → V → Hp → VK → Prop := fun x y H Q => ∃ i j, x = .int i ∧ y = .int j ∧ Q (.int (i + j)) H
def rSub : V → V → Hp → VK → Prop := fun x y H Q => ∃ i j, x = .int i ∧ y = .int j ∧ Q (.int (i - j)) H
/-- what is between an instance and its method: the tree of a method call -/
theorem methcall_of {pl : Sem Bool} {m : Str} {apos : Pos} {args : List Expr} {pins : List (Addr × Obj)} {s : Shared} {σ : St} {H : Hp} {Q : Value → Shared → Prop} {te : TE} (he : PE X e te) (I : Inv X pins σ H s)
    (h : te σ H fun x H1 => ∃ a C dx fs g, x = .ref a ∧ H1 a = some (.ins C dx fs) ∧ Cls X.K C ∧ Meth X.K C m g ∧ fs.lookup m = none ∧
      ∀ s1, Inv X pins σ H1 s1 → wpAny (model X.prog X.w) X.A (callWith pos (.ref g) [.ref a] (backTo pos (starEach args X.env)) (backToKw pos (keywordEach [] X.env))) Q X.xe s1)
    (ht : eval (.Call (.Attribute e m apos) args [] pos) X.env = (do
      let ov ← eval e X.env
      standAt apos.atName
      let (f, first) ← holding [ov] (getMethod ov m pl)
      callWith pos f first (backTo pos (starEach args X.env)) (backToKw pos (keywordEach [] X.env)))) :
    wpAny (model X.prog X.w) X.A (eval (.Call (.Attribute e m apos) args [] pos) X.env) Q X.xe s := by
  refine PySem.W.methodCall_KW (pl := pl) (thn (he pins s σ H _ I h) fun u s1 ⟨x, H1, I1, rx, a, C, dx, fs, g, ex, ea, c, k, l, q⟩ => ?_) ht
  subst ex
  obtain rfl : u = Value.ref a := rx
  exact getmeth_ok I1 ea c k l (q s1 I1)
end

/-! ### isinstance -/
section
variable {X : Cx} {pins : List (Addr × Obj)} {σ : St} {H : Hp} {s : Shared} {A : Around} {E : Value → Shared → Prop} {Q : Value → Shared → Prop} {c : Value} {b : Bool}
/-- the type of a value, as the fragment's deciders take it; for an instance its class -/
inductive TyOf (K : PySem.W.Frag) (H : Hp) : V → Value → Prop where
  | non : TyOf K H .non (.type "NoneType")
  | bl (x : Bool) : TyOf K H (.bl x) (.type "bool")
  | int (i : Int) : TyOf K H (.int i) (.type "int")
  | str (x : Str) : TyOf K H (.str x) (.type "str")
  | flt (x : UInt64) : TyOf K H (.flt x) (.type "float")
  | lst {a : Addr} {xs : List V} (e : H a = some (.lst xs)) : TyOf K H (.ref a) (.type "list")
  | frz {a : Addr} {o : Obj} {xs : List V} (e : H a = some (.frz o (.lst xs))) : TyOf K H (.ref a) (.type "list")
  | tup {a : Addr} {xs : List V} (e : H a = some (.tup xs)) : TyOf K H (.ref a) (.type "tuple")
  | dK {a : Addr} {kvs : List (Key × V)} (e : H a = some (.dK kvs)) : TyOf K H (.ref a) (.type "dict")
  | dT {a : Addr} {kvs : List (List Key × V)} (e : H a = some (.dT kvs)) : TyOf K H (.ref a) (.type "dict")
  | ins {a C dx : Addr} {fs : List (Str × V)} (e : H a = some (.ins C dx fs)) (cl : Cls K C) (ha : PySem.W.findIn K (.ref C) "__class__" = some (some (.builtin "object.__class__")))
      (hn : PySem.W.specialIn K (.builtin "object.__class__") "__get__" = some (some (.builtin "getset_descriptor.__get__"))) (htk : PySem.W.takesIn K (.builtin "object.__class__") = some true)
      (hm : PySem.W.mroIn K C (.type "object") = some true) : TyOf K H (.ref a) (.ref C)
end
end L2

namespace L2
open PySem PySem.Spec PyProof.Rows

/-! ### room -/
structure Room (k : Nat) (A : Around) : Prop where
  hd : A.handled = none
  dp : A.depth + 3 * k + 5 < recursionLimit
  un : A.units + 16 * k + 200 < cLine
theorem Room.mono {j k : Nat} {A : Around} (r : Room k A) (h : j ≤ k) : Room j A := ⟨r.hd, by have := r.dp; omega, by have := r.un; omega⟩
theorem Room.deeper {k : Nat} {A : Around} (r : Room (k + 1) A) (env : Env) : Room k (A.deeper env) :=
  ⟨r.hd, by have := r.dp; show A.depth + 1 + 3 * k + 5 < _; omega, by have := r.un; show A.units + 3 + 16 * k + 200 < _; omega⟩
theorem make_depth {A : Around} {C : Addr} {us : List Value} {kw : List (Str × Value)} : (A.under (.builtin "type.__call__" ⟨.ref C :: us, kw⟩)).depth = A.depth + 1 := by
  first | rfl | simp [Around.under, Code.weight, Code.isCreation, Code.isGuard, Code.isCaller, Code.frames, Code.isFrame, guardIds]
theorem make_units {A : Around} {C : Addr} {us : List Value} {kw : List (Str × Value)} : (A.under (.builtin "type.__call__" ⟨.ref C :: us, kw⟩)).units = A.units + 1 := by
  first | rfl | simp [Around.under, Code.cUnits, Code.frames, Code.isFrame]
theorem Room.make {k : Nat} {A : Around} (r : Room (k + 1) A) (C : Addr) (us : List Value) (kw : List (Str × Value)) : Room k (A.under (.builtin "type.__call__" ⟨.ref C :: us, kw⟩)) :=
  ⟨r.hd, by have := r.dp; rw [make_depth]; omega, by have := r.un; rw [make_units]; omega⟩
theorem Room.depth {k : Nat} {A : Around} (r : Room k A) : A.depth < recursionLimit := by have := r.dp; omega
/-! ### argument lists and displays -/
def tNil : TA := fun _ H Q => Q [] H
def tCons (ta : TE) (tr : TA) : TA := fun σ H Q => ta σ H fun x H1 => tr σ H1 fun xs H2 => Q (x :: xs) H2
section
variable {X : Cx} {e : Expr} {es : List Expr} {te : TE} {t : TA} {pos : Pos}
theorem pa_nil : PA X [] tNil := fun _ _ _ _ H Q I h => Calls.spliced_nil ⟨[], H, I, .nil, h⟩
theorem pa_cons (ha : PE X e te) (hr : PA X es t) (hs : starEach (e :: es) X.env = (false, eval e X.env) :: starEach es X.env := by rfl) : PA X (e :: es) (tCons te t) := by
  intro pos pins s σ H Q I h
  rw [hs]
  show wpAny _ _ (spliced ((false, eval e X.env) :: backTo pos (starEach es X.env))) _ _ s
  refine Calls.spliced_cons (thn (ha pins s σ H _ I h) fun u s1 ⟨x, H1, I1, r1, q1⟩ => ?_)
  exact thn (hr pos pins s1 σ H1 _ I1 q1) fun us s2 ⟨xs, H2, I2, r2, q2⟩ => ⟨x :: xs, H2, I2, .cons r1 r2, q2⟩

/-- a tuple, a list of written items -/
def tTup (t : TA) : TE := fun σ H Q => t σ H fun xs H1 => xs.length ≤ sizeLine ∧ ∀ p, H1 p = none → Q (.ref p) (upd H1 p (.tup xs))
def tLst (t : TA) : TE := fun σ H Q => t σ H fun xs H1 => xs.length ≤ sizeLine ∧ ∀ p, H1 p = none → Q (.ref p) (upd H1 p (.lst xs))
theorem pe_tup {x1} (h : PA X es t) : PE X (.Tuple es x1 pos) (tTup t) := by
  intro pins s σ H Q I hq
  refine wpAny_Tuple_spliced (thn (h pos pins s σ H _ I hq) fun us s1 ⟨xs, H1, I1, r, z, q⟩ => ⟨by rw [← r.length]; exact z, ?_⟩)
  have hf : H1 s1.heap.objs.size = none := I1.hok.fresh (Nat.le_refl _)
  refine ⟨.ref s1.heap.objs.size, upd H1 s1.heap.objs.size (.tup xs), I1.laid (t' := s1.toks) (fun b u e => Heap.get?_push_of_some _ e) (Nat.le_refl _) ?_, rfl, q _ hf⟩
  exact ⟨z, us, r, ⟨_, Heap.get?_push_size _ rfl, rfl, _, rfl⟩⟩
theorem pe_lst (h : PA X es t) : PE X (.List es pos) (tLst t) := by
  intro pins s σ H Q I hq
  refine wpAny_List_spliced (thn (h pos pins s σ H _ I hq) fun us s1 ⟨xs, H1, I1, r, z, q⟩ => ⟨by rw [← r.length]; exact z, ?_⟩)
  have hf : H1 s1.heap.objs.size = none := I1.hok.fresh (Nat.le_refl _)
  refine ⟨.ref s1.heap.objs.size, upd H1 s1.heap.objs.size (.lst xs), I1.laid (t' := s1.toks) (fun b u e => Heap.get?_push_of_some _ e) (Nat.le_refl _) ?_, rfl, q _ hf⟩
  exact ⟨z, us, 0, r, Heap.get?_push_size _ rfl⟩
end

/-! ### what a def promises -/
/-- a def's promise: the bound arguments in the parameters' order, the heap, the wanted end, the wanted exception -/
abbrev Sp := List V → Hp → VK → XK → Prop
/-- how an exception lies behind a call (file 08 gives it): the callers' frames, abstract heap and state ahead of the call, the wish, the exception, the state -/
abbrev CXT := List Env → Hp → Shared → XK → Value → Shared → Prop

/-- the state at a call -/
structure Env0 (P : Program) (w : World) (K : PySem.W.Frag) (mg : Str → Option Value) (base : Heap) (A : Around) (outer : List Env) (s : Shared) (H : Hp) : Prop where
  frames : A.frames = some outer
  mod : Mod K mg base
  bs : ∀ b o, base.get? b = some o → s.heap.get? b = some o ∧ H b = none
  bsz : base.objs.size ≤ s.heap.objs.size
  funs : s.heap.FunFrames base outer
  frf : ∀ b ∈ frs outer, H b = none
  hok : HOk P w H s.heap
  bare : AllBare s.gens
/-- a call's end -/
def CE (outer : List Env) (P : Program) (w : World) (H : Hp) (s : Shared) (Q : VK) (u : Value) (s' : Shared) : Prop :=
  ∃ v H', s'.os = s.os ∧ AllBare s'.gens ∧ Un (frs outer) [] H H' s.heap s'.heap ∧ HOk P w H' s'.heap ∧ RelV v u ∧ Q v H'
def CR (CX : CXT) (outer : List Env) (P : Program) (w : World) (H : Hp) (s : Shared) (Q : VK) (E : XK) (r : Result) (s' : Shared) : Prop :=
  match r with
  | .ok (.ret u) => CE outer P w H s Q u s'
  | .ok _ => False
  | .error e => CX outer H s E e s'
structure FnOk (P : Program) (w : World) (K : PySem.W.Frag) (mg : Str → Option Value) (base : Heap) (CX : CXT) (k : Nat) (f : Addr) (fd : FuncData) (ps : List Str) (sp : Sp) : Prop where
  len : ∀ vs H Q E, sp vs H Q E → vs.length = ps.length
  run : ∀ (A : Around) (outer : List Env) (s : Shared) (H : Hp) (args : Args) (us : List Value) (vs : List V) (Q : VK) (E : XK), Room k A → Env0 P w K mg base A outer s H → BindsTo s fd args (ps.zip us) → Vals vs us → sp vs H Q E →
    codeAny (model P w) A (.call (.ref f) args) (CR CX outer P w H s Q E) s
theorem Env0.make {P : Program} {w : World} {K : PySem.W.Frag} {mg : Str → Option Value} {base : Heap} {A : Around} {outer : List Env} {s : Shared} {H : Hp} (e : Env0 P w K mg base A outer s H) (C : Addr) (us : List Value) (kw : List (Str × Value)) :
    Env0 P w K mg base (A.under (.builtin "type.__call__" ⟨.ref C :: us, kw⟩)) outer s H := ⟨by first | exact e.frames | (simpa [Around.under, Code.envs, Code.isFrame, pushEnvs] using e.frames), e.mod, e.bs, e.bsz, e.funs, e.frf, e.hok, e.bare⟩
section
variable {X : Cx} {pins : List (Addr × Obj)} {σ : St} {H : Hp} {s s' : Shared}
/-- from a body: what a callee wants -/
theorem Inv.env0 (I : Inv X pins σ H s) : Env0 X.prog X.w X.K X.mg X.base X.A X.stack s H :=
  ⟨I.ok.frames, I.ok.mod, I.bs, Nat.le_trans I.ok.bsz I.sz, I.stack, I.stkFree, I.hok, I.bare⟩
/-- behind a call -/
theorem Inv.after {Q : VK} {u : Value} (I : Inv X pins σ H s) (h : CE X.stack X.prog X.w H s Q u s') : EP X pins σ Q u s' := by
  obtain ⟨v, H', os, bare, un, hok, r, q⟩ := h
  obtain ⟨hh, g, d, t, os'⟩ := s'
  obtain rfl : os' = s.os := os
  exact ⟨v, H', I.call (h' := hh) (g' := g) (d' := d) (t' := t) (ch := []) un hok bare (fun b z => absurd z (by simp)), r, q⟩
end

/-! ### calls -/
/-- f(..): the written arguments, then the defaults dvs; E: what is wanted of an exception -/
def tCall (sp : Sp) (dvs : List V) (E : XK) (t : TA) : TE := fun σ H Q => t σ H fun vs H1 => sp (vs ++ dvs) H1 Q E
/-- o.m(..) of an instance of the class at C -/
def tMeth (C : Addr) (m : Str) (sp : Sp) (dvs : List V) (E : XK) (ta : TE) (t : TA) : TE := fun σ H Q => ta σ H fun x H1 => ∃ a dx fs, x = .ref a ∧ H1 a = some (.ins C dx fs) ∧ fs.lookup m = none ∧
  t σ H1 fun vs H2 => sp (x :: (vs ++ dvs)) H2 Q E
/-- C(..): a new instance and its dict, then __init__ -/
def tMake (C : Addr) (sp : Sp) (dvs : List V) (E : XK) (t : TA) : TE := fun σ H Q => t σ H fun vs H1 => ∀ x dx, H1 x = none → H1 dx = none → dx ≠ x →
  sp (.ref x :: (vs ++ dvs)) (upd (upd H1 dx (.own x)) x (.ins C dx [])) (fun v H2 => v = .non ∧ Q (.ref x) H2) E

/-- how the parameters are bound: us the positional arguments, kw the keywords' values by name, ds the defaults that fill up -/
def Binds (K : PySem.W.Frag) (fd : FuncData) (ps : List Str) (ds : List Value) : Prop :=
  ∀ (s : Shared) (us : List Value), K.In s.heap → (us ++ ds).length = ps.length → BindsTo s fd ⟨us, []⟩ (ps.zip (us ++ ds))
/-- every parameter is given -/
theorem Binds.all {K : PySem.W.Frag} {fd : FuncData} {ps : List Str} (h : ∀ us : List Value, us.length = ps.length → bindArgs fd ⟨us, []⟩ = pure (ps.zip us)) : Binds K fd ps [] := fun s us _ hl => by
  rw [List.append_nil] at hl ⊢
  exact .of_eq (h us hl)

/-- an exception of a callee reaches what this body wants of exceptions -/
def Passes (CX : CXT) (X : Cx) (E : XK) : Prop := ∀ (pins : List (Addr × Obj)) (σ : St) (H : Hp) (s : Shared) (e : Value) (s' : Shared), Inv X pins σ H s → CX X.stack H s E e s' → X.xe e s'

section
variable {X : Cx} {CX : CXT} {k : Nat} {f C : Addr} {fd : FuncData} {ps : List Str} {sp : Sp} {dvs : List V} {ds : List Value} {E : XK} {x m : Str} {p pos apos : Pos} {e o : Expr} {es : List Expr} {ta : TE} {t : TA}

/-- the callee runs -/
theorem run_fn {pins : List (Addr × Obj)} {σ : St} {H : Hp} {s : Shared} {Q : VK} {us : List Value} {vs : List V} (F : FnOk X.prog X.w X.K X.mg X.base CX k f fd ps sp) (hr : Room k X.A) (hb : Binds X.K fd ps ds) (hd : Vals dvs ds) (hx : Passes CX X E)
    (I : Inv X pins σ H s) (r : Vals vs us) (h : sp (vs ++ dvs) H Q E) : wpAny (model X.prog X.w) X.A (call (.ref f) us) (EP X pins σ Q) X.xe s := by
  have r2 : Vals (vs ++ dvs) (us ++ ds) := r.append hd
  have hl : (us ++ ds).length = ps.length := by rw [← r2.length]; exact F.len _ _ _ _ h
  refine wpAny_call (codeAny_mono (F.run X.A X.stack s H ⟨us, []⟩ (us ++ ds) (vs ++ dvs) Q E hr I.env0 (hb s us I.kIn hl) r2 h) fun r s' hq => ?_)
  cases r with
  | error e => exact hx pins σ H s e s' I hq
  | ok fl =>
    cases fl with
    | ret u => exact I.after hq
    | next => exact False.elim hq
    | brk => exact False.elim hq
    | cont => exact False.elim hq

theorem pe_call (F : FnOk X.prog X.w X.K X.mg X.base CX k f fd ps sp) (hr : Room k X.A) (hg : Gl X x) (hm : X.mg x = some (.ref f)) (hk : PySem.W.keepIn X.K (.ref f) = true) (hb : Binds X.K fd ps ds) (hd : Vals dvs ds) (hx : Passes CX X E)
    (ha : PA X (e :: es) t) (hdb : (x == ("__debug__" : Str)) = false := by decide) (he : starEach (e :: es) X.env = (false, eval e X.env) :: starEach es X.env := by rfl) (hpl : (backTo pos (starEach es X.env)).any (·.1) = false := by rfl) :
    PE X (.Call (.Name x p) (e :: es) [] pos) (tCall sp dvs E t) := by
  intro pins s σ H Q I h
  refine wpAny_Call_Name_kw (ld_glob I hg hm ?_ hdb)
  refine PySem.W.callWith_K (h₀ := X.base) I.ok.mod.kin hk (thn (ha pos pins s σ H _ I h) fun us s1 ⟨vs, H1, I1, r, q⟩ => ⟨I1.kIn, ?_⟩) he hpl
  exact run_fn F hr hb hd hx I1 r q
/-- o.m(e, ..) -/
theorem pe_meth {pl : Sem Bool} (he : PE X o ta) (c : Cls X.K C) (hm : Meth X.K C m f) (F : FnOk X.prog X.w X.K X.mg X.base CX k f fd ps sp) (hr : Room k X.A) (hb : Binds X.K fd ps ds) (hd : Vals dvs ds) (hx : Passes CX X E) (ha : PA X (e :: es) t)
    (hst : starEach (e :: es) X.env = (false, eval e X.env) :: starEach es X.env := by rfl) (hpl : (backTo pos (starEach es X.env)).any (·.1) = false := by rfl)
    (ht : eval (.Call (.Attribute o m apos) (e :: es) [] pos) X.env = (do
      let ov ← eval o X.env
      standAt apos.atName
      let (f, first) ← holding [ov] (getMethod ov m pl)
      callWith pos f first (backTo pos (starEach (e :: es) X.env)) (backToKw pos (keywordEach [] X.env))) := by rfl) :
    PE X (.Call (.Attribute o m apos) (e :: es) [] pos) (tMeth C m sp dvs E ta t) := by
  intro pins s σ H Q I h
  refine PySem.W.methodCall_KW (pl := pl) (thn (he pins s σ H _ I h) fun u s1 ⟨x, H1, I1, rx, a, dx, fs, ex, ea, l, q⟩ => ?_) ht
  subst ex
  obtain rfl : u = Value.ref a := rx
  refine getmeth_ok I1 ea c hm l ?_
  refine PySem.W.callWith_K (first := [.ref a]) (h₀ := X.base) I.ok.mod.kin hm.kp (thn (ha pos pins s1 σ H1 _ I1 q) fun us s2 ⟨vs, H2, I2, r, q2⟩ => ⟨I2.kIn, ?_⟩) hst hpl
  exact run_fn (us := .ref a :: us) (vs := .ref a :: vs) F hr hb hd hx I2 (.cons rfl r) q2
/-- o.m() -/
theorem pe_meth0 {pl : Sem Bool} (he : PE X o ta) (c : Cls X.K C) (hm : Meth X.K C m f) (F : FnOk X.prog X.w X.K X.mg X.base CX k f fd ps sp) (hr : Room k X.A) (hb : Binds X.K fd ps ds) (hd : Vals dvs ds) (hx : Passes CX X E)
    (ht : eval (.Call (.Attribute o m apos) [] [] pos) X.env = (do
      let ov ← eval o X.env
      standAt apos.atName
      let (f, first) ← holding [ov] (getMethod ov m pl)
      callWith pos f first (backTo pos (starEach [] X.env)) (backToKw pos (keywordEach [] X.env))) := by rfl) :
    PE X (.Call (.Attribute o m apos) [] [] pos) (tMeth C m sp dvs E ta tNil) := by
  intro pins s σ H Q I h
  refine PySem.W.methodCall_KW (pl := pl) (thn (he pins s σ H _ I h) fun u s1 ⟨x, H1, I1, rx, a, dx, fs, ex, ea, l, q⟩ => ?_) ht
  subst ex
  obtain rfl : u = Value.ref a := rx
  refine getmeth_ok I1 ea c hm l ?_
  exact PySem.W.callWith_K0 (first := [.ref a]) I1.kIn hm.kp (run_fn (us := [.ref a]) (vs := [.ref a]) F hr hb hd hx I1 (.cons rfl .nil) q)

/-- what a class must have to be made -/
structure Mk (K : PySem.W.Frag) (C f : Addr) : Prop where
  makes : PySem.W.makesIn K C = true
  init : PySem.W.findIn K (.ref C) "__init__" = some (some (.ref f))
  fn : PySem.W.isFn K (.ref f) = true
  kp : PySem.W.keepIn K (.ref C) = true

theorem run_make {pins : List (Addr × Obj)} {σ : St} {H : Hp} {s : Shared} {Q : VK} {us : List Value} {vs : List V} (M : Mk X.K C f) (F : FnOk X.prog X.w X.K X.mg X.base CX k f fd ps sp) (hr : Room (k + 1) X.A) (hb : Binds X.K fd ps ds) (hd : Vals dvs ds)
    (hx : Passes CX X E) (I : Inv X pins σ H s) (r : Vals vs us)
    (h : ∀ x dx, H x = none → H dx = none → dx ≠ x → sp (.ref x :: (vs ++ dvs)) (upd (upd H dx (.own x)) x (.ins C dx [])) (fun v H2 => v = .non ∧ Q (.ref x) H2) E) :
    wpAny (model X.prog X.w) X.A (call (.ref C) us) (EP X pins σ Q) X.xe s := by
  have hq := h (s.heap.objs.size + 1) s.heap.objs.size (I.hok.fresh (Nat.le_succ _)) (I.hok.fresh (Nat.le_refl _)) (Nat.ne_of_lt (Nat.lt_succ_self _))
  have I2 := Inv.made (C := C) I
  have r2 : Vals (V.ref (s.heap.objs.size + 1) :: (vs ++ dvs)) (Value.ref (s.heap.objs.size + 1) :: (us ++ ds)) := .cons rfl (r.append hd)
  have hl : (Value.ref (s.heap.objs.size + 1) :: us ++ ds).length = ps.length := by
    have e := r2.length
    rw [F.len _ _ _ _ hq] at e
    exact e.symm
  refine wpAny_call (make_map (f := f) I.kIn M.makes M.init (beq_iff_eq.mp M.fn) (codeAny_mono (F.run _ X.stack _ _ ⟨Value.ref (s.heap.objs.size + 1) :: us, []⟩ (Value.ref (s.heap.objs.size + 1) :: (us ++ ds)) _ _ E (hr.make C us [])
    (I2.env0.make C us []) (hb _ (Value.ref (s.heap.objs.size + 1) :: us) I2.kIn hl) r2 hq) fun r s' hq' => ?_))
  cases r with
  | error e => exact hx pins σ _ _ e s' I2 hq'
  | ok fl =>
    cases fl with
    | ret u =>
      obtain ⟨v, H', I3, rv, ev, q3⟩ := I2.after hq'
      subst ev
      exact ⟨rv, ⟨V.ref (s.heap.objs.size + 1), H', I3, rfl, q3⟩⟩
    | next => exact False.elim hq'
    | brk => exact False.elim hq'
    | cont => exact False.elim hq'
theorem pe_make0 (M : Mk X.K C f) (F : FnOk X.prog X.w X.K X.mg X.base CX k f fd ps sp) (hr : Room (k + 1) X.A) (hg : Gl X x) (hm : X.mg x = some (.ref C)) (hb : Binds X.K fd ps ds) (hd : Vals dvs ds) (hx : Passes CX X E)
    (hdb : (x == ("__debug__" : Str)) = false := by decide) : PE X (.Call (.Name x p) [] [] pos) (tMake C sp dvs E tNil) := by
  intro pins s σ H Q I h
  refine wpAny_Call_Name_kw (ld_glob I hg hm ?_ hdb)
  exact PySem.W.callWith_K0 I.kIn M.kp (run_make (us := []) M F hr hb hd hx I .nil h)
end

/-! ### keywords -/
/-- the values of the keywords, from the left -/
def PK (X : Cx) (kws : List Keyword) (t : TA) : Prop :=
  ∀ (pos : Pos) (pins : List (Addr × Obj)) (s : Shared) (σ : St) (H : Hp) (Q : List V → Hp → Prop), Inv X pins σ H s → t σ H Q → wpAny (model X.prog X.w) X.A (evalAll ((backToKw pos (keywordEach kws X.env)).map (·.2))) (AP X pins σ Q) X.xe s
section
variable {X : Cx} {CX : CXT} {k : Nat} {f C : Addr} {fd : FuncData} {ps ks : List Str} {sp : Sp} {E : XK} {x m : Str} {p pos apos kpos : Pos} {e o : Expr} {es : List Expr} {kws : List Keyword} {te ta : TE} {t tk : TA} {nm : Option Str}
/-- how a call with keywords binds: g puts the positional values us and the keywords' values ws (names ks) in the parameters' order, defaults among them -/
structure KBinds (K : PySem.W.Frag) (fd : FuncData) (ps ks : List Str) (g : List Value → List Value → List Value) (gV : List V → List V → List V) : Prop where
  to : ∀ (s : Shared) (us ws : List Value), K.In s.heap → (g us ws).length = ps.length → BindsTo s fd ⟨us, ks.zip ws⟩ (ps.zip (g us ws))
  rel : ∀ {vs : List V} {us : List Value} {zs : List V} {ws : List Value}, Vals vs us → Vals zs ws → Vals (gV vs zs) (g us ws)
def tCallK (sp : Sp) (gV : List V → List V → List V) (E : XK) (t tk : TA) : TE := fun σ H Q => t σ H fun vs H1 => tk σ H1 fun zs H2 => sp (gV vs zs) H2 Q E
variable {g : List Value → List Value → List Value} {gV : List V → List V → List V}
end

/-! ### a def's body keeps its promise -/
/-- names: the parameters first -/
structure FnScope (N P : List Str) (sc : Scope) : Prop where
  kind : sc.kind = .function
  co : sc.isCoroutine = false
  gen : sc.isGenerator = false
  nd : N.Nodup
  pre : N.take P.length = P
  par : ∀ x ∈ P, sc.names.lookup x = some .local ∨ sc.names.lookup x = some .cell
  nofree : ∀ y ∈ sc.names, y.2 ≠ .free

theorem bindL_out {kindOf : Str → Option NameKind} {x : Str} : ∀ {binds : List (Str × Value)} {m : Str → Option Value}, (∀ v, (x, v) ∉ binds) → bindL kindOf binds m x = m x
  | [], _, _ => rfl
  | (n, v) :: r, m, h => by
    unfold bindL
    rw [bindL_out fun w hw => h w (List.mem_cons_of_mem _ hw)]
    split
    · have : x ≠ n := by rintro rfl; exact h v List.mem_cons_self
      simp [this]
    · rfl
theorem bindC_out {kindOf : Str → Option NameKind} {x : Str} : ∀ {binds : List (Str × Value)} {m : Str → Option Value}, (∀ v, (x, v) ∉ binds) → bindC kindOf binds m x = m x
  | [], _, _ => rfl
  | (n, v) :: r, m, h => by
    unfold bindC
    rw [bindC_out fun w hw => h w (List.mem_cons_of_mem _ hw)]
    split
    · rfl
    · have : x ≠ n := by rintro rfl; exact h v List.mem_cons_self
      simp [this]
theorem bindL_get {kindOf : Str → Option NameKind} {x : Str} {v : Value} : ∀ {P : List Str} {vs : List Value} {i : Nat} {m : Str → Option Value}, P.Nodup → P[i]? = some x → vs[i]? = some v → kindOf x = some .local →
    bindL kindOf (P.zip vs) m x = some v
  | [], _, _, _, _, h, _, _ => by simp at h
  | _ :: _, [], _, _, _, _, h, _ => by simp at h
  | p :: P, w :: vs, 0, m, nd, h1, h2, hk => by
    simp at h1 h2; subst h1; subst h2
    show bindL kindOf ((p, w) :: P.zip vs) m p = _
    unfold bindL
    rw [bindL_out fun v hv => (List.nodup_cons.mp nd).1 (List.of_mem_zip hv).1, if_pos hk]
    simp
  | p :: P, w :: vs, i + 1, m, nd, h1, h2, hk => by
    show bindL kindOf ((p, w) :: P.zip vs) m x = _
    unfold bindL
    exact bindL_get (i := i) (List.nodup_cons.mp nd).2 (by simpa using h1) (by simpa using h2) hk
theorem bindC_get {kindOf : Str → Option NameKind} {x : Str} {v : Value} : ∀ {P : List Str} {vs : List Value} {i : Nat} {m : Str → Option Value}, P.Nodup → P[i]? = some x → vs[i]? = some v → kindOf x ≠ some .local →
    bindC kindOf (P.zip vs) m x = some v
  | [], _, _, _, _, h, _, _ => by simp at h
  | _ :: _, [], _, _, _, _, h, _ => by simp at h
  | p :: P, w :: vs, 0, m, nd, h1, h2, hk => by
    simp at h1 h2; subst h1; subst h2
    show bindC kindOf ((p, w) :: P.zip vs) m p = _
    unfold bindC
    rw [bindC_out fun v hv => (List.nodup_cons.mp nd).1 (List.of_mem_zip hv).1, if_neg hk]
    simp
  | p :: P, w :: vs, i + 1, m, nd, h1, h2, hk => by
    show bindC kindOf ((p, w) :: P.zip vs) m x = _
    unfold bindC
    exact bindC_get (i := i) (List.nodup_cons.mp nd).2 (by simpa using h1) (by simpa using h2) hk

/-- the names' values at the entry -/
def start (N : List Str) (vs : List V) : St := vs.map some ++ List.replicate (N.length - vs.length) none

/-- the context of a def's body, at its entry; an exception leaves the frame, then lies as CX says -/
def cxOf (CX : CXT) (P : Program) (w : World) (K : PySem.W.Frag) (mg : Str → Option Value) (base : Heap) (N : List Str) (qual : Str) (scope : Scope) (f : Addr) (cd : Value) (A : Around) (outer : List Env) (s : Shared) (H : Hp) (E : XK) : Cx where
  prog := P
  w := w
  K := K
  mg := mg
  base := base
  A := A.deeper (envOfC qual scope s.heap.objs.size f cd)
  N := N
  s_0 := s
  H_0 := H
  env := envOfC qual scope s.heap.objs.size f cd
  outer := outer
  stack := envOfC qual scope s.heap.objs.size f cd :: outer
  ex := []
  calm := true
  fn := fun _ => true
  pn := []
  xe := fun e s' => wpAny (model P w) (A.deeper (envOfC qual scope s.heap.objs.size f cd)) (leaving (envOfC qual scope s.heap.objs.size f cd) e) (fun _ s'' => CX outer H s E e s'') (fun e' s'' => CX outer H s E e' s'') s'

theorem cell_has {sc : Scope} {n : Nat} {x : Str} (h : sc.names.lookup x = some .cell) : ∃ c, (cellsFrom n sc.names []).lookup x = some c := by
  have q := PySem.W.cellsFrom_some sc.names n [] (.inl h)
  exact Option.isSome_iff_exists.mp q

theorem inv_start {CX : CXT} {P : Program} {w : World} {K : PySem.W.Frag} {mg : Str → Option Value} {base : Heap} {N ps : List Str} {qual : Str} {scope : Scope} {f : Addr} {cd : Value} {A : Around} {outer : List Env} {s s1 : Shared} {H : Hp} {E : XK} {us : List Value} {vs : List V}
    (S : FnScope N ps scope) (hd : A.handled = none) (e0 : Env0 P w K mg base A outer s H) (hl : vs.length = ps.length) (r : Vals vs us)
    (x : InCallC s s.heap.objs.size (bindL (envOfC qual scope s.heap.objs.size f cd).kindOf (ps.zip us) fun _ => none) (cellsFrom (s.heap.objs.size + 1) scope.names []) (bindC (envOfC qual scope s.heap.objs.size f cd).kindOf (ps.zip us) fun _ => none) s1) :
    Inv (cxOf CX P w K mg base N qual scope f cd A outer s H E) [] (start N vs) H s1 := by
  have hpl : ps.length ≤ N.length := by have := congrArg List.length S.pre; rw [List.length_take] at this; omega
  obtain ⟨h1, tk, rfl, hk⟩ := x.done
  have noA : ∀ b : Addr, b ∉ (cxOf CX P w K mg base N qual scope f cd A outer s H E).ex := fun b z => absurd (show b ∈ ([] : List Addr) from z) (by simp)
  refine ⟨⟨e0.mod, S.kind, rfl, rfl, Nat.le_refl _, fun y z c h1 h2 => ?_, fun y hy => ?_, fun y c _ h => ?_, fun _ => hd, Around.frames_deeper e0.frames, .inr ⟨rfl, rfl⟩, fun b z => absurd z (noA b), e0.bs, e0.bsz, fun b _ _ => noA b, fun b z => absurd z (noA b), e0.funs, e0.frf⟩,
    rfl, e0.bare, Un.kept hk, ⟨_, x.toInCall.ns, fun i y v h1 h2 h3 => ?_⟩, fun y c h => ⟨_, x.cell y c h⟩, e0.hok.fresh (Nat.le_refl _), fun y c h => ?_, fun p hp => absurd (show p ∈ ([] : List (Addr × Obj)) from hp) (by simp), e0.hok.kept hk, ?_⟩
  · exact name_of_addr x.apart (PySem.mem_of_lookup h1) (PySem.mem_of_lookup h2)
  · have hy : scope.names.lookup y = some .cell ∨ scope.names.lookup y = some .free := hy
    rcases hy with hy | hy
    · exact cell_has hy
    · exact absurd rfl (S.nofree _ (PySem.mem_of_lookup hy))
  · exact Nat.le_of_lt (x.above y c (PySem.mem_of_lookup h))
  · have hi : i < vs.length := by
      unfold start at h2
      by_cases hi : i < vs.length
      · exact hi
      · rw [List.getElem?_append_right (by simpa using hi)] at h2
        rw [List.getElem?_replicate] at h2
        split at h2 <;> cases h2
    have ha : vs[i]? = some v := by
      unfold start at h2
      rw [List.getElem?_append_left (by simpa using hi), List.getElem?_map] at h2
      cases e : vs[i]? with
      | none => rw [e] at h2; cases h2
      | some a => rw [e] at h2; cases h2; rfl
    obtain ⟨u, hu, rv⟩ := r.get ha
    have hp : ps[i]? = some y := by
      rw [← S.pre, List.getElem?_take_of_lt (by omega)]; exact h1
    have ndP : ps.Nodup := by rw [← S.pre]; exact S.nd.sublist (List.take_sublist _ _)
    refine ⟨u, rv, ?_⟩
    rcases S.par y (List.mem_of_getElem? hp) with k | k
    · exact .inl ⟨k, bindL_get ndP hp hu k⟩
    · obtain ⟨c, e⟩ := cell_has (n := s.heap.objs.size + 1) k
      refine .inr ⟨.inl k, c, e, ?_⟩
      have q := x.cell y c e
      rw [bindC_get ndP hp hu (by show scope.names.lookup y ≠ _; rw [k]; decide)] at q
      exact q
  · exact e0.hok.fresh (Nat.le_of_lt (x.above y c (PySem.mem_of_lookup h)))
  · unfold start
    show _ = N.length
    rw [List.length_append, List.length_map, List.length_replicate]
    omega

/-- THE RULE: a def (or a method) of the text, by its body. The body's reading t is chosen for each entry; it is run at the parameters' values -/
theorem fn_of {CX : CXT} {P : Program} {w : World} {K : PySem.W.Frag} {mg : Str → Option Value} {base : Heap} {k : Nat} {f : Addr} {name qual : Str} {params : Arguments} {body : List Stmt} {scope : Scope} {dV kV doc pm cdv ct oc : Value} {an od : Option Addr}
    {osl : Array (Option Value)} {N ps : List Str} {sp : Sp} (lk : K.lookup f = some ⟨oc, od, .func (PySem.W.fnOf name qual params body scope dV kV doc pm an cdv ct), osl⟩) (hcd : PySem.W.codeIn K cdv qual = true) (S : FnScope N ps scope)
    (len : ∀ vs H Q E, sp vs H Q E → vs.length = ps.length)
    (hbody : ∀ (A : Around) (outer : List Env) (s : Shared) (H : Hp) (vs : List V) (Q : VK) (E : XK), Room k (A.deeper (envOfC qual scope s.heap.objs.size f cdv)) → sp vs H Q E →
      ∃ t, PSs (cxOf CX P w K mg base N qual scope f cdv A outer s H E) body t ∧ t { nx := fun _ H' => Q .non H', rt := Q } (start N vs) H) :
    FnOk P w K mg base CX (k + 1) f (PySem.W.fnOf name qual params body scope dV kV doc pm an cdv ct) ps sp := by
  refine ⟨len, fun A outer s H args us vs Q E hr e0 hb r hsp => ?_⟩
  have hl := len _ _ _ _ hsp
  have KX : K.In s.heap := e0.mod.kin.keeps fun b o e => (e0.bs b o e).1
  have lim : s.heap.NoLimit := e0.mod.nolimit.keeps fun b o e => (e0.bs b o e).1
  have hkind : ∀ y ∈ ps.zip us, scope.names.lookup y.1 = some .local ∨ (scope.names.lookup y.1 = some .cell ∧ ((cellsFrom (s.heap.objs.size + 1) scope.names []).lookup y.1).isSome = true) := fun ⟨n, v⟩ hy => by
    rcases S.par n (List.of_mem_zip hy).1 with q | q
    · exact .inl q
    · exact .inr ⟨q, PySem.W.cellsFrom_some _ _ _ (.inl q)⟩
  refine codeAny_call_function hr.depth (KX _ _ lk) rfl S.co S.gen rfl (PySem.W.codeRec_of KX hcd) (hb _ _ _ _ ?_)
  refine wpAny_newFunctionEnv_cells S.kind hkind fun env he s1 x => ?_
  subst he
  refine ⟨lim.keeps x.toInCall.keep, codeAny_func ?_⟩
  obtain ⟨t, ht, hq⟩ := hbody A outer s H vs Q E (hr.deeper _) hsp
  have I : Inv (cxOf CX P w K mg base N qual scope f cdv A outer s H E) [] (start N vs) H s1 := inv_start S hr.hd e0 hl r x
  refine wpAny_mono (ht [] s1 (start N vs) H _ I hq) (fun fl s' hs => ?_) fun e s' hs => hs
  have fin : ∀ {σ' : St} {H' : Hp} {v : V} {u : Value}, Inv (cxOf CX P w K mg base N qual scope f cdv A outer s H E) [] σ' H' s' → RelV v u → Q v H' → CE outer P w H s Q u s' :=
    fun {σ' H' v u} J rv q => ⟨v, H', J.os, J.bare, J.base, J.hok, rv, q⟩
  cases fl with
  | ret u =>
    obtain ⟨v, σ', H', J, rv, q⟩ := hs
    exact fin J rv q
  | next =>
    obtain ⟨σ', H', J, q⟩ := hs
    exact fin (v := V.non) (u := Value.none) J rfl q
  | brk =>
    obtain ⟨_, _, _, q⟩ := hs
    exact False.elim q
  | cont =>
    obtain ⟨_, _, _, q⟩ := hs
    exact False.elim q
end L2

namespace L2
open PySem PySem.Spec PyProof.Rows
section
variable {X : Cx} {x : Str} {p pos : Pos} {e : Expr} {es : List Expr} {t : TA} {id T : String} {r : List V → Hp → VK → Prop}

def tCB (r : List V → Hp → VK → Prop) (t : TA) : TE := fun σ H Q => t σ H fun vs H1 => r vs H1 Q
/-- f(e, ..), f a built-in function -/
theorem pe_callB (hc : CallR X (.builtin id) r) (hg : Gl X x) (hm : X.mg x = none) (hv : bootBuiltins x = some (.builtin id)) (ha : PA X (e :: es) t) (hn : x ≠ "__name__" := by decide) (hdb : (x == ("__debug__" : Str)) = false := by decide)
    (he : starEach (e :: es) X.env = (false, eval e X.env) :: starEach es X.env := by rfl) (hpl : (backTo pos (starEach es X.env)).any (·.1) = false := by rfl) : PE X (.Call (.Name x p) (e :: es) [] pos) (tCB r t) := by
  intro pins s σ H Q I h
  refine wpAny_Call_Name_kw (ld_blt I hg hm hv ?_ hn hdb)
  exact PyProof.Rows.callWith_builtin1 (thn (ha pos pins s σ H _ I h) fun us s1 ⟨vs, H1, I1, r1, q1⟩ => hc pins s1 σ H1 vs us Q I1 r1 q1) he hpl
/-- T(e, ..), T a built-in type -/
theorem pe_callTy (hc : CallR X (.type T) r) (hg : Gl X x) (hm : X.mg x = none) (hv : bootBuiltins x = some (.type T)) (ha : PA X (e :: es) t) (hn : x ≠ "__name__" := by decide) (hdb : (x == ("__debug__" : Str)) = false := by decide)
    (he : starEach (e :: es) X.env = (false, eval e X.env) :: starEach es X.env := by rfl) (hpl : (backTo pos (starEach es X.env)).any (·.1) = false := by rfl) : PE X (.Call (.Name x p) (e :: es) [] pos) (tCB r t) := by
  intro pins s σ H Q I h
  refine wpAny_Call_Name_kw (ld_blt I hg hm hv ?_ hn hdb)
  exact PyProof.Rows.callWith_type1 (thn (ha pos pins s σ H _ I h) fun us s1 ⟨vs, H1, I1, r1, q1⟩ => hc pins s1 σ H1 vs us Q I1 r1 q1) he hpl
end
end L2

namespace HT
open PySem PyProof.Rows

/-- t < u of tuples of ints -/
def lexLt : List Int → List Int → Bool
  | [], [] => false
  | [], _ :: _ => true
  | _ :: _, [] => false
  | x :: xs, y :: ys => if x = y then lexLt xs ys else decide (x < y)
section
open PySem.SeqAt
open PySem.AutoSeq1 (wpAny_loadPart')
open PySem.MeetsSeq PySem.MeetsSeq2 PySem.MeetsSeq3

end

section
variable {prog : Program} {w : World} {A : Around} {E : Value → Shared → Prop} {s : Shared}

/-! ### t[a:b], not the whole -/
/-- a slice's bound as a place among n (d where it is left out) -/
def sIx (n d : Nat) : Option Int → Nat
  | none => d
  | some v => if v < 0 then (v + (n : Int)).toNat else min v.toNat n
theorem sIx_none (n d : Nat) : sIx n d none = d := rfl
theorem sIx_nat (n d k : Nat) : sIx n d (some (k : Int)) = min k n := by
  show (if (k : Int) < 0 then ((k : Int) + (n : Int)).toNat else min (k : Int).toNat n) = min k n
  rw [if_neg (by omega), Int.toNat_natCast]
end
end HT

namespace L2
open PySem PySem.Spec PyProof.Rows

/-! ### the parts of a slice -/
abbrev TO := St → Hp → (Option Int → Hp → Prop) → Prop
/-- a slice's part (left out, or an int) -/
def PO (X : Cx) (e : Option Expr) (t : TO) : Prop :=
  ∀ (pins : List (Addr × Obj)) (s : Shared) (σ : St) (H : Hp) (Q : Option Int → Hp → Prop), Inv X pins σ H s → t σ H Q →
    wpAny (model X.prog X.w) X.A (evalPart e X.env) (fun u s' => ∃ o H', Inv X pins σ H' s' ∧ IsPart u o ∧ Q o H') X.xe s
def tNoPart : TO := fun _ H Q => Q none H
def tPart (t : TE) : TO := fun σ H Q => t σ H fun x H1 => ∃ i, x = .int i ∧ Q (some i) H1

theorem intsAre_of {ns : List Int} : ∀ {us : List Value}, Vals (ns.map V.int) us → IntsAre us ns := by
  induction ns with
  | nil => intro us r; rw [List.map_nil] at r; cases r; exact .nil
  | cons n ns ih =>
    intro us r
    rw [List.map_cons] at r
    cases r with
    | cons r1 r2 =>
      obtain ⟨t, e⟩ := r1
      subst e
      exact .cons n t (ih r2)

section
variable {X : Cx} {e : Expr} {te : TE} {lo hi : Option Expr} {tl th : TO} {pos p2 : Pos}

theorem po_none : PO X none tNoPart := by
  intro pins s σ H Q I h
  rw [evalPart_none]
  exact wpAny_pure ⟨none, H, I, .none, h⟩
theorem po_some (h : PE X e te) : PO X (some e) (tPart te) := by
  intro pins s σ H Q I hw
  rw [evalPart_some]
  refine thn (h pins s σ H _ I hw) fun u s1 ⟨x, H1, I1, r1, q1⟩ => ?_
  obtain ⟨i, rfl, q⟩ := q1
  obtain ⟨t, rfl⟩ := r1
  exact ⟨some i, H1, I1, .int i t, q⟩

/-- what a slice of a value is, by values: the slice object stands at sl -/
def SlR (X : Cx) (r : V → Option Int → Option Int → Hp → VK → Prop) : Prop :=
  ∀ (pins : List (Addr × Obj)) (s : Shared) (σ : St) (H : Hp) (x : V) (v vl vu : Value) (lo hi : Option Int) (sl : Addr) (Q : VK), Inv X pins σ H s → RelV x v → s.heap.IsSliceOf sl vl vu .none → IsPart vl lo → IsPart vu hi → r x lo hi H Q →
    ∃ T id, typeLookup (.type T) "__getitem__" = pure (some (.builtin id)) ∧ s.TypeIs v T ∧ wpAny (model X.prog X.w) X.A (getItem v (.ref sl)) (EP X pins σ Q) X.xe s
def tSl (r : V → Option Int → Option Int → Hp → VK → Prop) (te : TE) (tl th : TO) : TE := fun σ H Q => te σ H fun x H1 => tl σ H1 fun l H2 => th σ H2 fun u H3 => r x l u H3 Q
/-- a[lo:hi], any a -/
theorem pe_slice {r : V → Option Int → Option Int → Hp → VK → Prop} (hr : SlR X r) (he : PE X e te) (hl : PO X lo tl) (hu : PO X hi th) : PE X (.Subscript e (.Slice lo hi none p2) pos) (tSl r te tl th) := by
  intro pins s σ H Q I h
  refine Subscript_ (thn (he pins s σ H _ I h) fun v s1 ⟨x, H1, I1, r1, q1⟩ => ?_)
  refine wpAny_Slice (thn (hl pins s1 σ H1 _ I1 q1) fun vl s2 ⟨l, H2, I2, pl, q2⟩ => thn (hu pins s2 σ H2 _ I2 q2) fun vu s3 ⟨u, H3, I3, pu, q3⟩ => ?_)
  rw [evalPart_none]
  refine wpAny_pure ?_
  have I4 : Inv X pins σ H3 { s3 with heap := s3.heap.push { cls := .type "slice", data := .fields #[vl, vu, .none] } } := I3.kept (t' := s3.toks) fun b ob q => Heap.get?_push_of_some _ q
  obtain ⟨T, id, hT, ht, hg⟩ := hr pins { s3 with heap := s3.heap.push { cls := .type "slice", data := .fields #[vl, vu, .none] } } σ H3 x v vl vu l u s3.heap.objs.size Q I4 r1 (Heap.IsSliceOf.new ..) pl pu q3
  show wpAny (model X.prog X.w) X.A (subscriptTail e (.Slice lo hi none p2) v (.ref s3.heap.objs.size)) (EP X pins σ Q) X.xe { s3 with heap := s3.heap.push { cls := .type "slice", data := .fields #[vl, vu, .none] } }
  exact tail_any (ops := [.ref s3.heap.objs.size, v]) ht hT hg (by with_unfolding_all rfl)

/-- the items of xs[lo:hi] -/
def cutV (xs : List V) (lo hi : Option Int) : List V := (xs.drop (HT.sIx xs.length 0 lo)).take (HT.sIx xs.length xs.length hi - HT.sIx xs.length 0 lo)
theorem cutV_length (xs : List V) (lo hi : Option Int) : (cutV xs lo hi).length ≤ xs.length := by
  unfold cutV
  rw [List.length_take, List.length_drop]
  omega
/-- t[lo:hi], not the whole of it (the whole would be t itself) -/
def rSlT (K : PySem.W.Frag) : V → Option Int → Option Int → Hp → VK → Prop := fun x lo hi H Q => ∃ a xs, x = .ref a ∧ SqT K H a xs ∧
  ¬ (HT.sIx xs.length 0 lo = 0 ∧ HT.sIx xs.length xs.length hi = xs.length) ∧ ∀ p, H p = none → Q (.ref p) (upd H p (.tup (cutV xs lo hi)))
/-! ### t < u, t + u -/
def rLtT (K : PySem.W.Frag) : R2 := fun x y H Q => ∃ a b ns ms, x = .ref a ∧ y = .ref b ∧ SqT K H a (ns.map V.int) ∧ SqT K H b (ms.map V.int) ∧ Q (.bl (HT.lexLt ns ms)) H
/-- t + u, t not empty: u empty gives t itself -/
def rCatT (K : PySem.W.Frag) : R2 := fun x y H Q => ∃ a b xs ys, x = .ref a ∧ y = .ref b ∧ SqT K H a xs ∧ SqT K H b ys ∧ xs ≠ [] ∧ xs.length + ys.length ≤ sizeLine ∧
  (ys = [] → Q (.ref a) H) ∧ (ys ≠ [] → ∀ p, H p = none → Q (.ref p) (upd H p (.tup (xs ++ ys))))
end
end L2

namespace L2
open PySem PySem.Spec PyProof.Rows

/-! ### places -/
/-- the place that an index of any sign means -/
def ixN (n : Nat) (i : Int) : Option Nat := if 0 ≤ i then (if i < n then some i.toNat else none) else if -(n : Int) ≤ i then some (i + n).toNat else none
def atI {α : Type} (xs : List α) (i : Int) : Option α := (ixN xs.length i).bind fun j => xs[j]?
theorem ixN_seq {n : Nat} {i : Int} {j : Nat} (h : ixN n i = some j) : seqIndex? i n = some j ∧ j < n ∧ -(n : Int) ≤ i ∧ i < n := by
  unfold ixN at h
  by_cases h0 : 0 ≤ i
  · rw [if_pos h0] at h
    by_cases h1 : i < n
    · rw [if_pos h1] at h
      have e : i.toNat = j := Option.some.inj h
      exact ⟨by rw [seqIndex_of h0 h1, e], by omega, by omega, h1⟩
    · rw [if_neg h1] at h; cases h
  · rw [if_neg h0] at h
    by_cases h1 : -(n : Int) ≤ i
    · rw [if_pos h1] at h
      have e : (i + n).toNat = j := Option.some.inj h
      exact ⟨by rw [seqIndex_neg (by omega) h1, e], by omega, h1, by omega⟩
    · rw [if_neg h1] at h; cases h
theorem atI_get {α : Type} {xs : List α} {i : Int} {v : α} (h : atI xs i = some v) : ∃ j, seqIndex? i xs.length = some j ∧ xs[j]? = some v ∧ j < xs.length ∧ -(xs.length : Int) ≤ i ∧ i < xs.length := by
  unfold atI at h
  cases e : ixN xs.length i with
  | none => rw [e] at h; cases h
  | some j =>
    rw [e] at h
    obtain ⟨h1, h2, h3, h4⟩ := ixN_seq e
    exact ⟨j, h1, h, h2, h3, h4⟩
theorem atI_nat {α : Type} {xs : List α} {j : Nat} {v : α} (h : xs[j]? = some v) : atI xs (j : Int) = some v := by
  have hj : j < xs.length := (List.getElem?_eq_some_iff.mp h).1
  have e : ixN xs.length (j : Int) = some j := by
    unfold ixN
    rw [if_pos (by omega), if_pos (by omega)]; simp
  unfold atI; rw [e]; exact h
/-! ### what may be subscripted -/
/-- what stands as an index of a plain subscript -/
def PlainIx (b : Expr) : Prop := ∀ o i, subscripted b false o i = operate [o, i] (getItem o i)
/-- a subscript by values -/
def IxR (X : Cx) (r : R2) : Prop :=
  ∀ (value slice : Expr) (pins : List (Addr × Obj)) (s : Shared) (σ : St) (H : Hp) (x y : V) (v u : Value) (Q : VK), Inv X pins σ H s → RelV x v → RelV y u → r x y H Q →
    subscripted slice false v u = operate [v, u] (getItem v u) → wpAny (model X.prog X.w) X.A (subscriptTail value slice v u) (EP X pins σ Q) X.xe s
/-- a call of a builtin's method by values: the receiver, the arguments -/
def MtR (X : Cx) (id : String) (r : V → List V → Hp → VK → Prop) : Prop :=
  ∀ (pins : List (Addr × Obj)) (s : Shared) (σ : St) (H : Hp) (x : V) (xs : List V) (v : Value) (us : List Value) (Q : VK), Inv X pins σ H s → RelV x v → Vals xs us → r x xs H Q →
    wpAny (model X.prog X.w) X.A (call (.builtin id) (v :: us)) (EP X pins σ Q) X.xe s
section
variable {X : Cx} {a b : Expr} {ta tb : TE} {pos : Pos}
/-- a[b] -/
theorem pe_ix {r : R2} (hr : IxR X r) (ha : PE X a ta) (hb : PE X b tb) (hs : PlainIx b) : PE X (.Subscript a b pos) (tOp r ta tb) := by
  intro pins s σ H Q I h
  exact Subscript_ (binT ha hb I h fun v u s2 x y H2 I2 rx ry q => hr a b pins s2 σ H2 x y v u Q I2 rx ry q (hs _ _))

def rIxL (K : PySem.W.Frag) : R2 := fun x y H Q => ∃ p xs i v, x = .ref p ∧ y = .int i ∧ SqL K H p xs ∧ atI xs i = some v ∧ Q v H
def rIxT (K : PySem.W.Frag) : R2 := fun x y H Q => ∃ p xs i v, x = .ref p ∧ y = .int i ∧ SqT K H p xs ∧ atI xs i = some v ∧ Q v H
def rIxS : R2 := fun x y H Q => ∃ z i c, x = .str z ∧ y = .int i ∧ z.length ≤ sizeLine ∧ atI z.cps.toList i = some c ∧ Q (.str ⟨#[c]⟩) H
theorem ix_list : IxR X (rIxL X.K) := by
  intro value slice pins s σ H x y v u Q I rx ry h hs
  obtain ⟨p, xs, i, z, rfl, rfl, hq, he, q⟩ := h
  cases rx
  obtain ⟨t, rfl⟩ := ry
  obtain ⟨its, r, pl, hz⟩ := I.list hq
  obtain ⟨j, h1, h2, h3, h4, h5⟩ := atI_get he
  obtain ⟨w, ew, rw'⟩ := r.get h2
  have hl := r.length
  have hn := line63
  have fin : EP X pins σ Q w s := ⟨z, H, I, rw', q⟩
  by_cases h0 : 0 ≤ i
  · have hj : i.toNat = j := by
      rw [seqIndex_of h0 h5] at h1
      exact Option.some.inj h1
    exact item_listR pl.isList h0 (by omega) (by rw [hj]; simpa using ew) fin hs
  · have hj : (i + (its.toArray.size : Int)).toNat = j := by
      rw [seqIndex_neg (by omega) h4] at h1
      rw [List.size_toArray, ← hl]
      exact Option.some.inj h1
    exact subscriptTail_builtinR (x := w) pl.isList.typeIs slot_list_getitem.lookup
      (wpAny_getItem_list_neg (Q := fun r s' => r = w ∧ EP X pins σ Q r s') pl.isList (by omega) (by rw [List.size_toArray] <;> omega) (by omega) (by rw [hj]; simpa using ew) ⟨rfl, fin⟩) hs
/-- list, tuple or str -/
def rIx (K : PySem.W.Frag) : R2 := fun x y H Q => rIxL K x y H Q ∨ rIxT K x y H Q ∨ rIxS x y H Q
/-! ### xs[i] = v, any sign -/
/-- the list's object behind a store -/
theorem mapSeq_set (its : List Value) (n j : Nat) (u : Value) : Obj.mapSeq (·.setIfInBounds j u) { cls := .type "list", data := .seq its.toArray n } = { cls := .type "list", data := .seq (its.set j u).toArray n } := by
  simp [Obj.mapSeq]
theorem Inv.lst {pins : List (Addr × Obj)} {σ : St} {H : Hp} {s : Shared} {p : Addr} {xs : List V} (I : Inv X pins σ H s) (h : H p = some (.lst xs)) :
    ∃ (its : List Value) (n : Nat), Vals xs its ∧ s.heap.get? p = some { cls := .type "list", data := .seq its.toArray n } ∧ xs.length ≤ sizeLine := by
  obtain ⟨z, its, n, r, e⟩ := I.hok p _ h
  exact ⟨its, n, r, e, z⟩
/-- the list at p is written by an update of its object -/
theorem Inv.lstUpd {pins : List (Addr × Obj)} {σ : St} {H : Hp} {s : Shared} {p : Addr} {xs ys : List V} {its its' : List Value} {n n' : Nat} {f : Obj → Obj} (I : Inv X pins σ H s) (h : H p = some (.lst xs))
    (ho : s.heap.get? p = some { cls := .type "list", data := .seq its.toArray n }) (hf : f { cls := .type "list", data := .seq its.toArray n } = { cls := .type "list", data := .seq its'.toArray n' }) (r : Vals ys its') (hz : ys.length ≤ sizeLine) (t : Nat) :
    Inv X pins σ (upd H p (.lst ys)) { s with heap := s.heap.update p f, toks := t } := by
  have e : (s.heap.update p f).get? p = some { cls := .type "list", data := .seq its'.toArray n' } := by
    rw [Heap.get?_update_self f ho (by rw [hf] <;> rfl), hf]
  refine I.write (x := p) (e := p) (by rw [h]; trivial) (.inl rfl) (fun b u hb q => (Heap.get?_update_other _ _ (Ne.symm hb)).trans q) ⟨_, e⟩ ?_
  exact ⟨hz, its', n', r, e⟩
def rSetL : V → V → V → Hp → (Hp → Prop) → Prop := fun o i v H Q => ∃ p xs k j, o = .ref p ∧ i = .int k ∧ H p = some (.lst xs) ∧ ixN xs.length k = some j ∧ Q (upd H p (.lst (xs.set j v)))
theorem set_list : PSet X rSetL := by
  intro pins s σ H o i v ov iv u Q I ro ri rv h
  obtain ⟨p, xs, k, j, rfl, rfl, hp, hj, q⟩ := h
  cases ro
  obtain ⟨t, rfl⟩ := ri
  obtain ⟨its, n, r, ho, hz⟩ := I.lst hp
  obtain ⟨h1, h2, h3, h4⟩ := ixN_seq hj
  have hl := r.length
  have hn := line63
  have I' : Inv X pins σ (upd H p (.lst (xs.set j v))) { s with heap := s.heap.update p (Obj.mapSeq (·.setIfInBounds j u)) } :=
    I.lstUpd hp ho (mapSeq_set its n j u) (r.set rv j) (by rw [List.length_set]; exact hz) s.toks
  by_cases h0 : 0 ≤ k
  · have hk : k.toNat = j := by
      rw [seqIndex_of h0 h4] at h1
      exact Option.some.inj h1
    exact PySem.W.ki_setAt ho h0 (by omega) (by rw [List.size_toArray, ← hl]; exact h4) (by rw [hk]; exact ⟨_, I', q⟩)
  · have hk : (k + (its.toArray.size : Int)).toNat = j := by
      rw [seqIndex_neg (by omega) h3] at h1
      rw [List.size_toArray, ← hl]
      exact Option.some.inj h1
    exact PySem.W.ki_setBack ho (by omega) (by rw [List.size_toArray, ← hl]; exact h3) (by omega) (by rw [hk]; exact ⟨_, I', q⟩)

/-! ### slices -/
theorem slice_bounds (lo hi : Option Int) (n : Nat) : (sliceBounds lo hi none n).1 = ((HT.sIx n 0 lo : Nat) : Int) ∧ (sliceBounds lo hi none n).2.1 = ((HT.sIx n n hi : Nat) : Int) ∧ (sliceBounds lo hi none n).2.2 = 1 := by
  refine ⟨?_, ?_, rfl⟩
  · cases lo with
    | none => simp [sliceBounds, HT.sIx]
    | some i =>
      simp only [sliceBounds, HT.sIx, Option.getD_none, show (1 : Int) > 0 by decide, if_true]
      by_cases h : i < 0
      · simp only [h, if_true] <;> omega
      · simp only [h, if_false] <;> omega
  · cases hi with
    | none => simp [sliceBounds, HT.sIx]
    | some i =>
      simp only [sliceBounds, HT.sIx, Option.getD_none, show (1 : Int) > 0 by decide, if_true]
      by_cases h : i < 0
      · simp only [h, if_true] <;> omega
      · simp only [h, if_false] <;> omega
theorem slicePick_cut (its : List Value) (lo hi : Option Int) : slicePick its.toArray lo hi none = ((its.drop (HT.sIx its.length 0 lo)).take (HT.sIx its.length its.length hi - HT.sIx its.length 0 lo)).toArray := by
  obtain ⟨h1, h2, h3⟩ := slice_bounds lo hi its.toArray.size
  unfold slicePick
  rw [h1, h2, h3]
  simp only [sliceRange_one, pick_run, List.size_toArray] <;> rfl
/-- xs[lo:hi] of a list: a new list -/
def rSlL (K : PySem.W.Frag) : V → Option Int → Option Int → Hp → VK → Prop := fun x lo hi H Q => ∃ a xs, x = .ref a ∧ SqL K H a xs ∧ ∀ p, H p = none → Q (.ref p) (upd H p (.lst (cutV xs lo hi)))
theorem sl_list : SlR X (rSlL X.K) := by
  intro pins s σ H x v vl vu lo hi sl Q I rx hs pl pu h
  obtain ⟨a, xs, rfl, hx, q⟩ := h
  cases rx
  obtain ⟨its, r, ht, hz⟩ := I.list hx
  have hlen := r.length
  refine ⟨"list", _, slot_list_getitem.lookup, ht.isList.typeIs, ?_⟩
  refine wpAny_getItem_list_slice ht.isList hs pl pu .none (by simp) ?_ (by rw [List.size_toArray] <;> omega)
  rw [slicePick_cut, ← hlen]
  refine ⟨.ref s.heap.objs.size, _, I.laid (t' := s.toks) (o := .lst (cutV xs lo hi)) (fun b ob q => Heap.get?_push_of_some _ q) (Nat.le_refl _) ?_, rfl, q _ (I.hok.fresh (Nat.le_refl _))⟩
  exact ⟨Nat.le_trans (cutV_length xs lo hi) hz, _, 0, (r.drop (HT.sIx xs.length 0 lo)).take (HT.sIx xs.length xs.length hi - HT.sIx xs.length 0 lo), Heap.get?_push_size _ rfl⟩

/-! ### in, not in: flat items -/
def flatV : V → Bool
  | .non => true
  | .bl _ => true
  | .int _ => true
  | .str _ => true
  | _ => false
/-- == of flat values -/
def eqV : V → V → Bool
  | .non, .non => true
  | .bl a, .bl b => a == b
  | .bl a, .int b => (if a then 1 else 0) == b
  | .int a, .bl b => a == (if b then 1 else 0)
  | .int a, .int b => a == b
  | .str a, .str b => a == b
  | _, _ => false
/-- the items' answers, read off the values (a value's own answer does not lean on its token) -/
def eqU (x : V) (u : Value) : Bool := match u with
  | .none => eqV .non x
  | .bool b => eqV (.bl b) x
  | .int i _ => eqV (.int i) x
  | .str z _ => eqV (.str z) x
  | _ => false
def inV (x : V) (xs : List V) : Bool := xs.any fun y => eqV y x
/-- x in a list or tuple of flat items -/
def rIn (K : PySem.W.Frag) (neg : Bool) : R2 := fun x y H Q => ∃ p xs, y = .ref p ∧ (SqL K H p xs ∨ SqT K H p xs) ∧ flatV x = true ∧ xs.all flatV = true ∧ Q (.bl (if neg then !inV x xs else inV x xs)) H
/-! ### len, list(x), tuple(x) of any list or tuple that is read -/
theorem call_len_seq : CallR X (.builtin "len") (fun xs H Q => ∃ p ys, xs = [.ref p] ∧ (SqL X.K H p ys ∨ SqT X.K H p ys) ∧ Q (.int ys.length) H) := by
  intro pins s σ H xs us Q I r h
  obtain ⟨p, ys, rfl, hq, q⟩ := h
  obtain ⟨u, rfl, rx⟩ := vals1 r
  cases rx
  have hn := line63
  rcases hq with hq | hq
  · obtain ⟨its, r', pl, hz⟩ := I.list hq
    have hlen := r'.length
    exact Calls.call_len_list pl.isList (by simp only [List.size_toArray] <;> omega) ⟨.int ys.length, H, I.tok _, ⟨s.toks + 1, by rw [List.size_toArray, hlen]⟩, q⟩
  · obtain ⟨its, r', pl, hz⟩ := I.tuple hq
    have hlen := r'.length
    exact len_tuple pl (by simp only [List.size_toArray] <;> omega) ⟨.int ys.length, H, I.tok _, ⟨s.toks + 1, by rw [List.size_toArray, hlen]⟩, q⟩
theorem call_list_of : CallR X (.type "list") (fun xs H Q => ∃ p ys, xs = [.ref p] ∧ (SqL X.K H p ys ∨ SqT X.K H p ys) ∧ ∀ l, H l = none → Q (.ref l) (upd H l (.lst ys))) := by
  intro pins s σ H xs us Q I r h
  obtain ⟨p, ys, rfl, hq, q⟩ := h
  obtain ⟨u, rfl, rx⟩ := vals1 r
  cases rx
  have fin : ∀ (its : List Value), Vals ys its → ys.length ≤ sizeLine → ∀ (h' : Heap) (c' : Nat), (∀ b o', s.heap.get? b = some o' → h'.get? b = some o') →
      h'.get? s.heap.objs.size = some { cls := .type "list", dict := none, data := .seq its.toArray c', slots := #[] } → EP X pins σ Q (.ref s.heap.objs.size) { s with heap := h' } := fun its r' hz h' c' kp e =>
    ⟨.ref s.heap.objs.size, _, I.laid (t' := s.toks) kp (Nat.le_refl _) (show ObjOk X.prog X.w _ h' _ (.lst ys) from ⟨hz, its, c', r', e⟩), rfl, q _ (I.hok.fresh (Nat.le_refl _))⟩
  rcases hq with hq | hq
  · obtain ⟨its, r', pl, hz⟩ := I.list hq
    have hlen := r'.length
    obtain ⟨o, ho, hc, n, hd⟩ := pl.isList
    exact call_list_seq p (.inl rfl) ho hc hd (fun h' c' kp e => fin its r' hz h' c' kp e) (by simp only [List.size_toArray] <;> omega)
  · obtain ⟨its, r', pl, hz⟩ := I.tuple hq
    have hlen := r'.length
    obtain ⟨o, ho, hc, n, hd⟩ := pl
    exact call_list_seq p (.inr rfl) ho hc hd (fun h' c' kp e => fin its r' hz h' c' kp e) (by simp only [List.size_toArray] <;> omega)
/-! ### the call of a builtin's method: o.m(..) -/
/-- the value is of that builtin type -/
def tyV (K : PySem.W.Frag) (T : String) (x : V) (H : Hp) : Prop := match x with
  | .str _ => T = "str"
  | .int _ => T = "int"
  | .ref p => (T = "list" ∧ ∃ xs, SqL K H p xs) ∨ (T = "tuple" ∧ ∃ o, K.lookup p = some o ∧ o.cls = .type "tuple" ∧ o.dict = none) ∨
      (T = "dict" ∧ ((∃ kvs, H p = some (.dK kvs)) ∨ ∃ kvs, H p = some (.dT kvs))) ∨ (T = "set" ∧ ∃ S n, H p = some (.set S n))
  | _ => False
theorem tyV_is {pins : List (Addr × Obj)} {σ : St} {H : Hp} {s : Shared} {T : String} {x : V} {v : Value} (I : Inv X pins σ H s) (r : RelV x v) (ty : tyV X.K T x H) :
    s.TypeIs v T ∧ ∀ a, v = .ref a → ∃ ob, s.heap.get? a = some ob ∧ ob.dict = none := by
  cases x with
  | str z =>
    obtain ⟨t, rfl⟩ := r
    cases (show T = "str" from ty)
    exact ⟨typeIs_str s z t, fun _ e => nomatch e⟩
  | int i =>
    obtain ⟨t, rfl⟩ := r
    cases (show T = "int" from ty)
    exact ⟨typeIs_int s i t, fun _ e => nomatch e⟩
  | ref p =>
    cases r
    rcases ty with ⟨rfl, xs, hq⟩ | ⟨rfl, o, hk, hc, hd⟩ | ⟨rfl, hk⟩ | ⟨rfl, S, n, hk⟩
    · obtain ⟨its, _, pl, _⟩ := I.list hq
      refine ⟨pl.isList.typeIs, fun a e => ?_⟩
      cases e
      obtain ⟨o, n, e, c, hd, _⟩ := pl
      exact ⟨o, e, hd⟩
    · refine ⟨⟨o, I.kIn p o hk, hc⟩, fun a e => ?_⟩
      cases e
      exact ⟨o, I.kIn _ o hk, hd⟩
    · have z : ∃ o, s.heap.get? p = some o ∧ o.ExactDict := by
        rcases hk with ⟨kvs, hk⟩ | ⟨kvs, hk⟩
        · obtain ⟨_, _, _, _, o, _, _, e, ex, _⟩ := I.hok p _ hk
          exact ⟨o, e, ex⟩
        · obtain ⟨_, _, _, _, o, _, _, e, ex, _⟩ := I.hok p _ hk
          exact ⟨o, e, ex⟩
      obtain ⟨o, e, ex⟩ := z
      refine ⟨⟨o, e, ex.1⟩, fun a e2 => ?_⟩
      cases e2
      exact ⟨o, e, ex.2.1⟩
    · obtain ⟨o, _, _, _, e, ex, _⟩ := I.hok p _ hk
      refine ⟨⟨o, e, ex.1⟩, fun a e2 => ?_⟩
      cases e2
      exact ⟨o, e, ex.2.1⟩
  | _ => exact False.elim ty
def tBM0 (K : PySem.W.Frag) (T : String) (r : V → List V → Hp → VK → Prop) (to : TE) : TE := fun σ H Q => to σ H fun x H1 => tyV K T x H1 ∧ r x [] H1 Q
def tBM (K : PySem.W.Frag) (T : String) (r : V → List V → Hp → VK → Prop) (to : TE) (t : TA) : TE := fun σ H Q => to σ H fun x H1 => tyV K T x H1 ∧ t σ H1 fun xs H2 => r x xs H2 Q
variable {o e : Expr} {es : List Expr} {to : TE} {t : TA} {name : Str} {apos cpos : Pos} {T id : String} {r : V → List V → Hp → VK → Prop}
theorem pe_bm (pa : PlainAttrs T) (slot : Slot T name id) (hty : typeOf (.builtin id) = pure (.type "method_descriptor")) (hm : MtR X id r) (ho : PE X o to) (ha : PA X (e :: es) t)
    (hbase : attributeBase o name X.env (eval o X.env) = eval o X.env := by rfl)
    (hfew : ((backTo cpos (starEach (e :: es) X.env)).all (fun x => !x.1) && (backToKw cpos (keywordEach [] X.env)).all (fun x => x.1.isSome)
      && decide ((e :: es).length + ([] : List Keyword).length + (if ([] : List Keyword).isEmpty then 0 else 1) < 30)) = true := by rfl)
    (hline : (apos.endLine == cpos.line) = true := by rfl) (hs : starEach (e :: es) X.env = (false, eval e X.env) :: starEach es X.env := by rfl) (hplain : (backTo cpos (starEach es X.env)).any (·.1) = false := by rfl) :
    PE X (.Call (.Attribute o name apos) (e :: es) [] cpos) (tBM X.K T r to t) := by
  intro pins s σ H Q I h
  refine wpAny_Call_method_late hbase hfew hline rfl (thn (ho pins s σ H _ I h) fun v s1 ⟨x, H1, I1, r1, ty, q1⟩ => ?_)
  obtain ⟨h1, h2⟩ := tyV_is I1 r1 ty
  refine ⟨T, id, pa, slot, hty, h1, h2, ?_⟩
  have hA := ha cpos pins s1 σ H1 _ I1 q1
  rw [hs] at hA ⊢
  refine Calls.callWith_builtin (by show (false || (backTo cpos (starEach es X.env)).any (·.1)) = false; rw [hplain] <;> rfl) (Calls.evalArgs_plain ?_)
  exact thn hA fun us s2 ⟨vs, H2, I2, r2, q2⟩ => hm pins s2 σ H2 x vs v us Q I2 r1 r2 q2
/- xs.append(e), list.index on a module's tuple .. are MtR facts of 06m -/
end
end L2

namespace L2
open PySem PySem.Spec PyProof.Rows

def MtM (X : Cx) (id : String) (r : V → List V → Hp → VK → Prop) : Prop :=
  ∀ (pins : List (Addr × Obj)) (s : Shared) (σ : St) (H : Hp) (x : V) (xs : List V) (v : Value) (us : List Value) (Q : VK), Inv X pins σ H s → RelV x v → Vals xs us → r x xs H Q →
    wpAny (model X.prog X.w) X.A (call (.builtin id) (v :: us)) (EP X pins σ Q) X.xe s

/-! ### lists of values -/
theorem Vals.one : ∀ {x : V} {us : List Value}, Vals [x] us → ∃ u, us = [u] ∧ RelV x u
  | _, _, .cons r .nil => ⟨_, rfl, r⟩
theorem Vals.rep {xs : List V} {us : List Value} (h : Vals xs us) : ∀ k : Nat, Vals (List.replicate k xs).flatten (List.replicate k us).flatten
  | 0 => .nil
  | k + 1 => by
    rw [List.replicate_succ, List.replicate_succ, List.flatten_cons, List.flatten_cons]
    exact Vals.append h (Vals.rep h k)
theorem foldl_rep (its : List Value) : ∀ (k : Nat) (acc : List Value),
    List.foldl (fun x1 x2 => x1 ++ x2) acc.toArray (List.replicate k its.toArray) = (acc ++ (List.replicate k its).flatten).toArray
  | 0, acc => by simp
  | k + 1, acc => by
    have e : acc.toArray ++ its.toArray = (acc ++ its).toArray := by simp
    have e2 : (acc ++ its) ++ (List.replicate k its).flatten = acc ++ (List.replicate (k + 1) its).flatten := by
      rw [List.replicate_succ, List.flatten_cons, List.append_assoc]
    rw [← e2, ← foldl_rep its k (acc ++ its), ← e, List.replicate_succ, List.foldl_cons]

section
variable {X : Cx} {pins : List (Addr × Obj)} {σ : St} {H : Hp} {s : Shared} {l b : Addr} {xs ys zs : List V}

/-! ### the two steps: a tracked list is rewritten, a new list is laid -/
theorem Inv.lset {its its' : List Value} {n : Nat} {f : Array Value → Array Value} {t' : Nat} (I : Inv X pins σ H s) (hH : H l = some (.lst xs))
    (e : s.heap.get? l = some { cls := .type "list", data := .seq its.toArray n }) (hf : f its.toArray = its'.toArray) (hv : Vals ys its') (hz : ys.length ≤ sizeLine) :
    Inv X pins σ (upd H l (.lst ys)) { s with heap := s.heap.update l (Obj.mapSeq f), toks := t' } := by
  have q := PySem.IsL.update e f
  rw [hf] at q
  refine I.write (x := l) (e := l) (by rw [hH]; exact trivial) (.inl rfl) (fun b' u hb hu => (Heap.get?_update_other s.heap (Obj.mapSeq f) (Ne.symm hb)).trans hu) ⟨_, q⟩ ?_
  exact ⟨hz, its', _, hv, q⟩
theorem Inv.lnew {its : List Value} {t' : Nat} (I : Inv X pins σ H s) (hv : Vals ys its) (hz : ys.length ≤ sizeLine) :
    Inv X pins σ (upd H s.heap.objs.size (.lst ys)) { s with heap := s.heap.push { cls := .type "list", data := .seq its.toArray }, toks := t' } :=
  I.laid (fun _ _ q => Heap.get?_push_of_some _ q) (Nat.le_refl _) ⟨hz, its, 0, hv, Heap.get?_push_size _ rfl⟩
theorem Inv.fresh (I : Inv X pins σ H s) : H s.heap.objs.size = none := I.hok.fresh (Nat.le_refl _)
theorem Inv.lstM (I : Inv X pins σ H s) (hH : H l = some (.lst xs)) : xs.length ≤ sizeLine ∧ ∃ (its : List Value) (n : Nat), Vals xs its ∧ xs.length = its.length ∧ s.heap.get? l = some { cls := .type "list", data := .seq its.toArray n } := by
  obtain ⟨z, its, n, r, e⟩ := I.hok l _ hH
  exact ⟨z, its, n, r, r.length, e⟩

theorem notLongL {n : Nat} (h : n ≤ sizeLine) : Builtin.List.listTooLong n = false := by
  unfold Builtin.List.listTooLong
  exact decide_eq_false (by omega)
end

section
variable {X : Cx}

/-! ### methods -/
def rAppend : V → List V → Hp → VK → Prop := fun x vs H Q => ∃ l xs y, x = .ref l ∧ vs = [y] ∧ H l = some (.lst xs) ∧ xs.length < sizeLine ∧ Q .non (upd H l (.lst (xs ++ [y])))
theorem mt_append : MtM X "list.append" rAppend := by
  intro pins s σ H x vs v us Q I rx rv h
  obtain ⟨l, xs, y, rfl, rfl, hH, hz, q⟩ := h
  cases rx
  obtain ⟨u, rfl, ru⟩ := rv.one
  obtain ⟨z, its, n, r, hl, e⟩ := I.lstM hH
  refine call_meets F.slot_list_append ⟨_, e, rfl⟩ F.entry_list_append (F.args_list_append_2 _ _) (PySem.list_append l its.toArray n u (by rw [List.size_toArray]; omega)) ⟨e, ?_⟩
  refine ⟨.non, _, I.lset (its' := its ++ [u]) hH e (by simp) (r.append (.cons ru .nil)) ?_, rfl, q⟩
  rw [List.length_append, List.length_singleton]
  omega

def rExtend : V → List V → Hp → VK → Prop := fun x vs H Q => ∃ l b xs zs, x = .ref l ∧ vs = [.ref b] ∧ H l = some (.lst xs) ∧ H b = some (.lst zs) ∧ xs.length + zs.length ≤ sizeLine ∧ Q .non (upd H l (.lst (xs ++ zs)))
theorem mt_extend : MtM X "list.extend" rExtend := by
  intro pins s σ H x vs v us Q I rx rv h
  obtain ⟨l, b, xs, zs, rfl, rfl, hH, hB, hz, q⟩ := h
  cases rx
  obtain ⟨u, rfl, ru⟩ := rv.one
  cases ru
  obtain ⟨z, its, n, r, hl, e⟩ := I.lstM hH
  obtain ⟨z2, its2, n2, r2, hl2, e2⟩ := I.lstM hB
  have hsz : its.toArray.size + its2.toArray.size ≤ sizeLine := by rw [List.size_toArray, List.size_toArray]; omega
  have hlong : ¬ (!its.toArray.isEmpty && Builtin.List.listTooLong (its.toArray.size + its2.toArray.size)) = true := by
    rw [notLongL hsz, Bool.and_false]
    exact Bool.false_ne_true
  refine call_meets F.slot_list_extend ⟨_, e, rfl⟩ F.entry_list_extend (F.args_list_extend_2 _ _)
    (AutoSeq1.list_extend_list_list_0 l its.toArray n b its2.toArray n2 hlong (by rw [List.size_toArray]; omega) (by omega)) ⟨e, e2, ?_⟩
  refine ⟨.non, _, I.lset (its' := its ++ its2) hH e (by simp) (r.append r2) ?_, rfl, q⟩
  rw [List.length_append]
  omega

def rPop : V → List V → Hp → VK → Prop := fun x vs H Q => ∃ l xs y, x = .ref l ∧ vs = [] ∧ H l = some (.lst xs) ∧ xs[xs.length - 1]? = some y ∧ Q y (upd H l (.lst xs.dropLast))
def rPopAt : V → List V → Hp → VK → Prop := fun x vs H Q => ∃ l xs i k y, x = .ref l ∧ vs = [.int i] ∧ H l = some (.lst xs) ∧ -(2 ^ 63) ≤ i ∧ i < 2 ^ 63 ∧ seqIndex? i xs.length = some k ∧ xs[k]? = some y ∧ Q y (upd H l (.lst (xs.eraseIdx k)))
def rReverse : V → List V → Hp → VK → Prop := fun x vs H Q => ∃ l xs, x = .ref l ∧ vs = [] ∧ H l = some (.lst xs) ∧ Q .non (upd H l (.lst xs.reverse))
def rClear : V → List V → Hp → VK → Prop := fun x vs H Q => ∃ l xs, x = .ref l ∧ vs = [] ∧ H l = some (.lst xs) ∧ Q .non (upd H l (.lst []))
/-! ### list + list, list += list, list * int -/
def rCat : R2 := fun x y H Q => ∃ l b xs zs, x = .ref l ∧ y = .ref b ∧ H l = some (.lst xs) ∧ H b = some (.lst zs) ∧ xs.length + zs.length ≤ sizeLine ∧ ∀ p, H p = none → Q (.ref p) (upd H p (.lst (xs ++ zs)))
theorem op_cat : OpR X (binaryOp .Add) rCat := by
  intro pins s σ H x y v u Q I rx ry h
  obtain ⟨l, b, xs, zs, rfl, rfl, hH, hB, hz, q⟩ := h
  cases rx
  cases ry
  obtain ⟨z, its, n, r, hl, e⟩ := I.lstM hH
  obtain ⟨z2, its2, n2, r2, hl2, e2⟩ := I.lstM hB
  refine PySem.P.add_list e e2 ?_ (by rw [List.size_toArray, List.size_toArray]; omega)
  have ea : its.toArray ++ its2.toArray = (its ++ its2).toArray := by simp
  rw [ea]
  exact ⟨.ref _, _, I.lnew (t' := s.toks) (r.append r2) (by rw [List.length_append]; omega), rfl, q _ I.fresh⟩
/-- a list times an int (a negative one is nothing) -/
def rRep : R2 := fun x y H Q => ∃ l k xs, x = .ref l ∧ y = .int k ∧ H l = some (.lst xs) ∧ -(2 ^ 63) ≤ k ∧ k < 2 ^ 63 ∧ xs.length * k.toNat ≤ sizeLine ∧
  ∀ p, H p = none → Q (.ref p) (upd H p (.lst (List.replicate k.toNat xs).flatten))
theorem len_rep {α : Type} (xs : List α) (k : Nat) : (List.replicate k xs).flatten.length = k * xs.length := by
  induction k with
  | zero => simp
  | succ k ih => rw [List.replicate_succ, List.flatten_cons, List.length_append, ih, Nat.succ_mul, Nat.add_comm]
theorem op_rep : OpR X (binaryOp .Mult) rRep := by
  intro pins s σ H x y v u Q I rx ry h
  obtain ⟨l, k, xs, rfl, rfl, hH, h1, h2, hz, q⟩ := h
  cases rx
  obtain ⟨t, rfl⟩ := ry
  obtain ⟨z, its, n, r, hl, e⟩ := I.lstM hH
  have hlen : its.toArray.size * k.toNat ≤ sizeLine := by rw [List.size_toArray, ← hl]; exact hz
  have hcap : ¬ its.toArray.size * k.toNat > (2 ^ 63 - 1) / 8 := by
    have : (sizeLine : Nat) ≤ (2 ^ 63 - 1) / 8 := by decide
    omega
  have hfit : ¬ (!Builtin.List.listFitsIndex k) = true := by
    rw [fitsIndex_both h1 h2]
    exact Bool.false_ne_true
  have hlong : ¬ Builtin.List.listTooLong (its.toArray.size * k.toNat) = true := by
    rw [notLongL hlen]
    exact Bool.false_ne_true
  have hnew : List.foldl (fun x1 x2 => x1 ++ x2) #[] (List.replicate (if its.toArray.isEmpty = true then 0 else k.toNat) its.toArray) = (List.replicate k.toNat its).flatten.toArray := by
    have f0 : ∀ m : Nat, List.foldl (fun x1 x2 => x1 ++ x2) #[] (List.replicate m its.toArray) = (List.replicate m its).flatten.toArray := fun m => by
      have := foldl_rep its m []
      rw [List.nil_append] at this
      exact this
    rw [f0]
    cases its with
    | nil => simp
    | cons a r' => rw [if_neg (by simp)]
  refine wpAny_binaryOp_repeat_ref (T := "list") (U := "int") (by decide) ⟨_, e, rfl⟩ (fun s' => typeIs_int s' k t) noFill_list_mul F.fills_int_mul F.slot_int_rmul repeat_list F.slot_int_index.lookup
    (call_meets F.slot_int_rmul (typeIs_int s k t) F.entry_int_rmul (F.args_int_rmul_2 _ _) (int___rmul___int_list k t l its.toArray n)
      ⟨e, rfl, ⟨_, e, rfl⟩, call_meets F.slot_list_mul ⟨_, e, rfl⟩ F.entry_list_mul (F.args_list_mul_2 _ _) (AutoListH.list___mul___list_int_3 l its.toArray n k t hfit hcap hlong) ⟨e, ?_⟩⟩)
  rw [hnew]
  exact ⟨.ref _, _, I.lnew (t' := s.toks) (r.rep k.toNat) (by rw [len_rep, Nat.mul_comm]; exact hz), rfl, q _ I.fresh⟩

/-! ### del xs[i] -/
end

/-! ### xs[a:b] = ys -/
section
variable {prog : Program} {w : World} {A : Around} {E : Value → Shared → Prop} {s : Shared}
set_option maxRecDepth 100000 in
end

section
variable {X : Cx}
end
end L2

namespace L2
open PySem PySem.Spec PyProof.Rows

/-! ### the library's walks over a list of ints, kept objects alone -/
section
variable {prog : Program} {w : World} {A : Around} {E : Value → Shared → Prop} {s : Shared} {l : Addr} {its : List Value} {ns : List Int} {Q : Value → Shared → Prop}
end

/-! ### the calls, by values (CallR of 03t; MtR of 06l) -/
section
variable {X : Cx}
/-- sum(xs) of a list of ints -/
def rSum (K : PySem.W.Frag) : List V → Hp → VK → Prop := fun vs H Q => ∃ (a : Addr) (ns : List Int), vs = [V.ref a] ∧ SqL K H a (ns.map V.int) ∧ Q (.int ns.sum) H
/-- max(xs), min(xs) of a list of ints -/
def rMax (K : PySem.W.Frag) : List V → Hp → VK → Prop := fun vs H Q => ∃ (a : Addr) (ns : List Int), vs = [V.ref a] ∧ SqL K H a (ns.map V.int) ∧ 0 < ns.length ∧ ∀ m, m ∈ ns → (∀ y, y ∈ ns → y ≤ m) → Q (.int m) H
def rMin (K : PySem.W.Frag) : List V → Hp → VK → Prop := fun vs H Q => ∃ (a : Addr) (ns : List Int), vs = [V.ref a] ∧ SqL K H a (ns.map V.int) ∧ 0 < ns.length ∧ ∀ m, m ∈ ns → (∀ y, y ∈ ns → m ≤ y) → Q (.int m) H
/-! sorted, sort (fewer than 64 items: the library's own bound) -/
def rSorted (K : PySem.W.Frag) : List V → Hp → VK → Prop := fun vs H Q => ∃ (a : Addr) (ns : List Int), vs = [V.ref a] ∧ SqL K H a (ns.map V.int) ∧ ns.length < 64 ∧
  ∀ (ns' : List Int) (p : Addr), ns'.Perm ns → ns'.Pairwise (· ≤ ·) → H p = none → Q (.ref p) (upd H p (.lst (ns'.map V.int)))
def rSortedS (K : PySem.W.Frag) : List V → Hp → VK → Prop := fun vs H Q => ∃ (a : Addr) (xs : List Str), vs = [V.ref a] ∧ SqL K H a (xs.map V.str) ∧ xs.length < 64 ∧
  ∀ (ys : List Str) (p : Addr), ys.Perm xs → sortedS ys = true → H p = none → Q (.ref p) (upd H p (.lst (ys.map V.str)))
/-- xs.sort(), ints -/
def rSort : V → List V → Hp → VK → Prop := fun x xs H Q => ∃ (a : Addr) (ns : List Int), x = V.ref a ∧ xs = [] ∧ H a = some (.lst (ns.map V.int)) ∧ ns.length < 64 ∧
  ∀ ns' : List Int, ns'.Perm ns → ns'.Pairwise (· ≤ ·) → Q .non (upd H a (.lst (ns'.map V.int)))
end

/-! ### list.index, flat items -/
section
variable {X : Cx}
def rIndex (K : PySem.W.Frag) : V → List V → Hp → VK → Prop := fun x xs H Q => ∃ (a : Addr) (ys : List V) (y : V) (j : Nat) (z : V), x = V.ref a ∧ xs = [y] ∧ SqL K H a ys ∧ flatV y = true ∧ ys.all flatV = true ∧ ys[j]? = some z ∧ eqV z y = true ∧
  (∀ (m : Nat) (z' : V), m < j → ys[m]? = some z' → eqV z' y = false) ∧ Q (.int (j : Nat)) H
end

/-! ### type(x) of an own instance; is, is not of a module's class -/
section
variable {X : Cx}
end

/-! ### any(xs), all(xs) of a list of bools -/
section
variable {X : Cx}
def rAny (K : PySem.W.Frag) : List V → Hp → VK → Prop := fun vs H Q => ∃ (a : Addr) (bs : List Bool), vs = [V.ref a] ∧ SqL K H a (bs.map V.bl) ∧ Q (.bl (bs.any id)) H
def rAll (K : PySem.W.Frag) : List V → Hp → VK → Prop := fun vs H Q => ∃ (a : Addr) (bs : List Bool), vs = [V.ref a] ∧ SqL K H a (bs.map V.bl) ∧ Q (.bl (bs.all id)) H
end

/-! ### == and != of data at any depth: none, bools, ints, texts, lists, tuples -/
mutual
inductive Dp (K : PySem.W.Frag) (H : Hp) : V → PyData → Prop
  | non : Dp K H .non .none
  | bl (b : Bool) : Dp K H (.bl b) (.bool b)
  | int (i : Int) : Dp K H (.int i) (.int i)
  | str (x : Str) : Dp K H (.str x) (.str x)
  | lst {a : Addr} {xs : List V} {ds : List PyData} : SqL K H a xs → DpAll K H xs ds → Dp K H (.ref a) (.list ds)
  | tup {a : Addr} {xs : List V} {ds : List PyData} : SqT K H a xs → DpAll K H xs ds → Dp K H (.ref a) (.tuple ds)
inductive DpAll (K : PySem.W.Frag) (H : Hp) : List V → List PyData → Prop
  | nil : DpAll K H [] []
  | cons {v : V} {vs : List V} {d : PyData} {ds : List PyData} : Dp K H v d → DpAll K H vs ds → DpAll K H (v :: vs) (d :: ds)
end
section
variable {X : Cx} {pins : List (Addr × Obj)} {σ : St} {H : Hp} {s : Shared}
mutual
theorem Dp.reads (I : Inv X pins σ H s) : ∀ (d : PyData) (v : V) (u : Value), Dp X.K H v d → RelV v u → ∃ as, Reads s.heap u d as
  | .none, _, _, h, r => by
    cases h
    cases r
    exact ⟨_, Reads.none⟩
  | .bool b, _, _, h, r => by
    cases h
    cases r
    exact ⟨_, Reads.bool b⟩
  | .int i, _, _, h, r => by
    cases h
    obtain ⟨t, rfl⟩ := r
    exact ⟨_, Reads.int i t⟩
  | .str x, _, _, h, r => by
    cases h
    obtain ⟨t, rfl⟩ := r
    exact ⟨_, Reads.str x t⟩
  | .list ds, _, _, h, r => by
    cases h with
    | lst hs ha =>
      cases r
      obtain ⟨its, rv, ⟨o, n, ho, hc, _, hd⟩, _⟩ := I.list hs
      obtain ⟨as, hr⟩ := Dp.readsAll I ds _ its ha rv
      exact ⟨_, Reads.list ho hc hd hr⟩
  | .tuple ds, _, _, h, r => by
    cases h with
    | tup hs ha =>
      cases r
      obtain ⟨its, rv, ⟨o, ho, hc, n, hd⟩, _⟩ := I.tuple hs
      obtain ⟨as, hr⟩ := Dp.readsAll I ds _ its ha rv
      exact ⟨_, Reads.tuple ho hc hd hr⟩
  | .dict _, _, _, h, _ => by cases h
theorem Dp.readsAll (I : Inv X pins σ H s) : ∀ (ds : List PyData) (vs : List V) (us : List Value), DpAll X.K H vs ds → Vals vs us → ∃ as, ReadsAll s.heap us ds as
  | [], _, _, h, r => by
    cases h
    cases r
    exact ⟨_, ReadsAll.nil⟩
  | d :: ds, _, _, h, r => by
    cases h with
    | cons h1 h2 =>
      cases r with
      | cons r1 r2 =>
        obtain ⟨as, q1⟩ := Dp.reads I d _ _ h1 r1
        obtain ⟨bs, q2⟩ := Dp.readsAll I ds _ _ h2 r2
        exact ⟨_, ReadsAll.cons q1 q2⟩
end
end
section
variable {X : Cx}
def rEqD (K : PySem.W.Frag) : R2 := fun x y H Q => ∃ d e, Dp K H x d ∧ Dp K H y e ∧ SeqAt.shaped d = true ∧ SeqAt.shaped e = true ∧ Q (.bl (PyData.eqv d e)) H
def rNeD (K : PySem.W.Frag) : R2 := fun x y H Q => ∃ d e, Dp K H x d ∧ Dp K H y e ∧ SeqAt.shaped d = true ∧ SeqAt.shaped e = true ∧ Q (.bl (!PyData.eqv d e)) H
theorem op_eqD (hu : X.A.units + 64 < cLine) : OpR X (compareOp .Eq) (rEqD X.K) := by
  intro pins s σ H x y v u Q I rx ry h
  obtain ⟨d, e, hd, he, sd, se, q⟩ := h
  obtain ⟨as, r1⟩ := Dp.reads I d x v hd rx
  obtain ⟨bs, r2⟩ := Dp.reads I e y u he ry
  exact SeqAt.compareEq_shaped r1 r2 sd se hu ⟨.bl _, H, I, rfl, q⟩
theorem op_neD (hu : X.A.units + 64 < cLine) : OpR X (compareOp .NotEq) (rNeD X.K) := by
  intro pins s σ H x y v u Q I rx ry h
  obtain ⟨d, e, hd, he, sd, se, q⟩ := h
  obtain ⟨as, r1⟩ := Dp.reads I d x v hd rx
  obtain ⟨bs, r2⟩ := Dp.reads I e y u he ry
  exact SeqAt.compareNe_shaped r1 r2 sd se hu ⟨.bl _, H, I, rfl, q⟩
end
end L2

namespace L2
open PySem PySem.Spec PyProof.Rows
abbrev CellAt (h : Heap) (c : Addr) (v : Option Value) : Prop := h.IsCell c v
def relS (scope sc : Scope) : Scope :=
  { scope with names := scope.names.map fun (n, k) => if (k == .free && sc.kind == .function && sc.names.lookup n == some .cell) then (n, .cell) else (n, k) }

def cloFrom (cells : List (Str × Addr)) : List (Str × NameKind) → List (Str × Addr) → List (Str × Addr)
  | [], acc => acc
  | (n, k) :: r, acc => if k == .free then cloFrom cells r ((n, (cells.lookup n).getD 0) :: acc) else cloFrom cells r acc

theorem closure_loop (env : Env) (f : Str × NameKind → List (Str × Addr) → Sem (ForInStep (List (Str × Addr))))
    (hf : ∀ n k c, f (n, k) c = if k == .free then (do let a ← cellOf env n; pure (.yield ((n, a) :: c))) else pure (.yield c)) :
    ∀ (names : List (Str × NameKind)) (acc : List (Str × Addr)), (∀ y ∈ names, y.2 = .free → ∃ c, env.cells.lookup y.1 = some c) → forIn names acc f = pure (cloFrom env.cells names acc)
  | [], acc, _ => by rw [List.forIn_nil]; rfl
  | (n, k) :: r, acc, h => by
    rw [List.forIn_cons, hf]
    have ih := fun acc => closure_loop env f hf r acc fun y hy => h y (List.mem_cons_of_mem _ hy)
    unfold cloFrom
    by_cases hk : (k == NameKind.free) = true
    · rw [if_pos hk, if_pos hk]
      obtain ⟨c, hc⟩ := h (n, k) List.mem_cons_self (by simpa using hk)
      have e : cellOf env n = pure c := by unfold cellOf; rw [hc]
      rw [e]
      have e2 : (env.cells.lookup n).getD 0 = c := by rw [hc]; rfl
      rw [e2]
      exact ih _
    · rw [if_neg hk, if_neg hk]
      exact ih _
theorem closure_ok {scope : Scope} {env : Env} (h : ∀ y ∈ scope.names, y.2 = .free → ∃ c, env.cells.lookup y.1 = some c) : closureFor scope env = pure (cloFrom env.cells scope.names []) := by
  simp only [closureFor]
  rw [closure_loop env _ (fun n k c => rfl) scope.names [] h]
  rfl

theorem mem_lookup {α : Type} : ∀ {l : List (Str × α)} {n : Str} {c : α}, (n, c) ∈ l → ∃ c', l.lookup n = some c'
  | (k, v) :: r, n, c, h => by
    rw [List.lookup_cons]
    cases hb : n == k with
    | true => exact ⟨_, rfl⟩
    | false =>
      rcases List.mem_cons.mp h with e | h
      · cases e; simp at hb
      · exact mem_lookup h

theorem cloFrom_mem {cells : List (Str × Addr)} : ∀ {names : List (Str × NameKind)} {acc : List (Str × Addr)} {n : Str} {c : Addr}, (n, c) ∈ cloFrom cells names acc → (n, c) ∈ acc ∨ ((n, .free) ∈ names ∧ c = (cells.lookup n).getD 0)
  | [], _, _, _, h => .inl h
  | (m, k) :: r, acc, n, c, h => by
    unfold cloFrom at h
    split at h
    · rename_i hk
      have hk : k = .free := by simpa using hk
      rcases cloFrom_mem h with h | ⟨h1, h2⟩
      · rcases List.mem_cons.mp h with e | h
        · cases e; exact .inr ⟨hk ▸ List.mem_cons_self, rfl⟩
        · exact .inl h
      · exact .inr ⟨List.mem_cons_of_mem _ h1, h2⟩
    · rcases cloFrom_mem h with h | ⟨h1, h2⟩
      · exact .inl h
      · exact .inr ⟨List.mem_cons_of_mem _ h1, h2⟩
theorem cloFrom_acc {cells : List (Str × Addr)} : ∀ {names : List (Str × NameKind)} {acc : List (Str × Addr)} {p : Str × Addr}, p ∈ acc → p ∈ cloFrom cells names acc
  | [], _, _, h => h
  | (m, k) :: r, acc, p, h => by
    unfold cloFrom
    split
    · exact cloFrom_acc (List.mem_cons_of_mem _ h)
    · exact cloFrom_acc h
theorem cloFrom_has {cells : List (Str × Addr)} : ∀ {names : List (Str × NameKind)} {acc : List (Str × Addr)} {n : Str}, (n, .free) ∈ names → (n, (cells.lookup n).getD 0) ∈ cloFrom cells names acc
  | (m, k) :: r, acc, n, h => by
    unfold cloFrom
    rcases List.mem_cons.mp h with e | h
    · cases e
      exact cloFrom_acc List.mem_cons_self
    · split
      · exact cloFrom_has h
      · exact cloFrom_has h

theorem cells_mem : ∀ {names : List (Str × NameKind)} {h : Heap} {acc : List (Str × Addr)} {x : Str} {c : Addr}, (x, c) ∈ cellsFrom h.objs.size names acc →
    (x, c) ∈ acc ∨ ((x, .cell) ∈ names ∧ h.objs.size ≤ c ∧ CellAt (pushCells h names) c none)
  | [], _, _, _, _, h => .inl h
  | (n, k) :: r, h, acc, x, c, hm => by
    unfold cellsFrom at hm
    unfold pushCells
    split at hm
    · rename_i hk
      rw [if_pos hk]
      have hk : k = .cell := by simpa using hk
      rw [← Heap.size_push h { cls := .type "cell", data := .cell none }] at hm
      rcases cells_mem hm with hm | ⟨h1, h2, h3⟩
      · rcases List.mem_cons.mp hm with e | hm
        · cases e
          exact .inr ⟨hk ▸ List.mem_cons_self, Nat.le_refl _, _, pushCells_keeps r _ _ _ (Heap.get?_push_size _ rfl), rfl⟩
        · exact .inl hm
      · rw [Heap.size_push] at h2
        exact .inr ⟨List.mem_cons_of_mem _ h1, Nat.le_of_succ_le h2, h3⟩
    · rename_i hk
      rw [if_neg hk]
      rcases cells_mem hm with hm | ⟨h1, h2, h3⟩
      · exact .inl hm
      · exact .inr ⟨List.mem_cons_of_mem _ h1, h2, h3⟩
theorem cells_acc : ∀ {names : List (Str × NameKind)} {n : Nat} {acc : List (Str × Addr)} {p : Str × Addr}, p ∈ acc → p ∈ cellsFrom n names acc
  | [], _, _, _, h => h
  | (m, k) :: r, n, acc, p, h => by
    unfold cellsFrom
    split
    · exact cells_acc (List.mem_cons_of_mem _ h)
    · exact cells_acc h
theorem cells_has : ∀ {names : List (Str × NameKind)} {n : Nat} {acc : List (Str × Addr)} {x : Str}, (x, .cell) ∈ names → ∃ c, (x, c) ∈ cellsFrom n names acc
  | (m, k) :: r, n, acc, x, h => by
    unfold cellsFrom
    rcases List.mem_cons.mp h with e | h
    · cases e
      exact ⟨n, cells_acc List.mem_cons_self⟩
    · split
      · exact cells_has h
      · exact cells_has h
theorem cells_inj : ∀ {names : List (Str × NameKind)} {h : Heap} {acc : List (Str × Addr)} {x y : Str} {c : Addr}, (∀ p ∈ acc, p.2 < h.objs.size) → (∀ x y c, (x, c) ∈ acc → (y, c) ∈ acc → x = y) →
    (x, c) ∈ cellsFrom h.objs.size names acc → (y, c) ∈ cellsFrom h.objs.size names acc → x = y
  | [], _, _, _, _, _, _, hi, h1, h2 => hi _ _ _ h1 h2
  | (n, k) :: r, h, acc, x, y, c, hl, hi, h1, h2 => by
    unfold cellsFrom at h1 h2
    split at h1
    · rename_i hk
      rw [if_pos hk] at h2
      rw [← Heap.size_push h { cls := .type "cell", data := .cell none }] at h1 h2
      refine cells_inj (h := h.push _) (fun p hp => ?_) (fun x y c a b => ?_) h1 h2
      · rw [Heap.size_push]
        rcases List.mem_cons.mp hp with rfl | hp
        · exact Nat.lt_succ_self _
        · exact Nat.lt_succ_of_lt (hl p hp)
      · rcases List.mem_cons.mp a with e | a <;> rcases List.mem_cons.mp b with e' | b
        · cases e; cases e'; rfl
        · cases e; exact absurd (hl _ b) (Nat.lt_irrefl _)
        · cases e'; exact absurd (hl _ a) (Nat.lt_irrefl _)
        · exact hi _ _ _ a b
    · rename_i hk
      rw [if_neg hk] at h2
      exact cells_inj hl hi h1 h2

theorem newEnv_comp {M : Model} {A : Around} {E : Value → Shared → Prop} {s : Shared} {scope : Scope} {globals : Addr} {closure : List (Str × Addr)} {qual : Str} {func : Option Addr} {code : Value} {around : Env} {builtins : Addr} {Q : Env → Shared → Prop}
    (h : Q (newEnv scope s.heap.objs.size globals (cellsFrom (s.heap.objs.size + 1) scope.names closure) qual func code (some around) builtins)
      { s with heap := pushCells (s.heap.push { cls := .type "dict", data := .dict #[] }) scope.names }) :
    wpAny M A (newFunctionEnv scope globals closure [] qual func code (some around) builtins) Q E s := by
  simp only [newFunctionEnv, Option.isSome_some, if_true]
  refine wpAny_bind (wpAny_alloc ?_)
  refine wpAny_bind (wpAny_layCells _ (fun n k c => rfl) scope.names closure _ _ ?_)
  rw [show ({ s with heap := s.heap.push { cls := .type "dict", data := .dict #[] } } : Shared).heap.objs.size = s.heap.objs.size + 1 from Heap.size_push ..]
  rw [List.forIn_nil]
  exact wpAny_bind (wpAny_pure (wpAny_pure h))

/-- every name of the written scope, in the scope that runs -/
theorem lookup_relS {sc : Scope} : ∀ {names : List (Str × NameKind)} {x : Str} {k : NameKind},
    (names.map fun (n, k) => if (k == NameKind.free && sc.kind == .function && sc.names.lookup n == some .cell) then (n, NameKind.cell) else (n, k)).lookup x = some k →
    ∃ k', names.lookup x = some k' ∧ (k = k' ∨ (k' = .free ∧ k = .cell))
  | [], _, _, h => by simp at h
  | (n, k₀) :: r, x, k, h => by
    have ih := @lookup_relS sc r x k
    have h' : List.lookup x ((if (k₀ == NameKind.free && sc.kind == .function && sc.names.lookup n == some .cell) = true then (n, NameKind.cell) else (n, k₀)) :: (r.map _)) = some k := h
    cases hx : x == n with
    | true =>
      simp only [List.lookup_cons, hx]
      by_cases hc : (k₀ == NameKind.free && sc.kind == .function && sc.names.lookup n == some .cell) = true
      · rw [if_pos hc] at h'
        simp only [List.lookup_cons, hx] at h'
        cases h'
        simp only [Bool.and_eq_true, beq_iff_eq] at hc
        exact ⟨k₀, rfl, .inr ⟨hc.1.1, rfl⟩⟩
      · rw [if_neg hc] at h'
        simp only [List.lookup_cons, hx] at h'
        cases h'
        exact ⟨_, rfl, .inl rfl⟩
    | false =>
      simp only [List.lookup_cons, hx]
      by_cases hc : (k₀ == NameKind.free && sc.kind == .function && sc.names.lookup n == some .cell) = true
      · rw [if_pos hc] at h'
        simp only [List.lookup_cons, hx] at h'
        exact ih h'
      · rw [if_neg hc] at h'
        simp only [List.lookup_cons, hx] at h'
        exact ih h'
/-- the names of a comprehension's block: its own (with their places in N), or captured -/
structure BlkOk (N : List Str) (sc scope : Scope) (own : List (Str × Nat)) : Prop where
  kind : scope.kind = .function
  uniq : ∀ y ∈ scope.names, scope.names.lookup y.1 = some y.2
  ix : ∀ p ∈ own, N[p.2]? = some p.1
  free : ∀ y ∈ scope.names, y.2 = .free → sc.names.lookup y.1 = some .cell ∨ sc.names.lookup y.1 = some .free
  own : ∀ y ∈ scope.names, y.2 = .local ∨ y.2 = .cell → y.1 ∈ own.map (·.1) ∨ y.1 ∉ N
/-- the slots of the block's own names forgotten -/
def wipe (σ : St) : List Nat → St
  | [] => σ
  | v :: vs => (wipe σ vs).set v none
theorem wipe_length (σ : St) : ∀ vs : List Nat, (wipe σ vs).length = σ.length
  | [] => rfl
  | v :: vs => by unfold wipe; rw [List.length_set, wipe_length σ vs]
theorem wipe_some {σ : St} {i : Nat} {x : V} : ∀ {vs : List Nat}, (wipe σ vs)[i]? = some (some x) → σ[i]? = some (some x) ∧ i ∉ vs
  | [], h => ⟨h, by simp⟩
  | v :: vs, h => by
    unfold wipe at h
    by_cases hi : v = i
    · subst hi
      by_cases hv : v < (wipe σ vs).length
      · rw [List.getElem?_set_self hv] at h; cases h
      · rw [List.getElem?_eq_none (by simpa using hv)] at h; cases h
    · rw [List.getElem?_set_ne hi] at h
      obtain ⟨h1, h2⟩ := wipe_some h
      exact ⟨h1, by simp only [List.mem_cons, not_or]; exact ⟨fun e => hi e.symm, h2⟩⟩

/-- the context of a block that starts at s, its iterator's objects at fp -/
abbrev Cx.blk (X : Cx) (s : Shared) (H : Hp) (scope : Scope) (cenv : Env) (fp : List Addr) : Cx := { X with s_0 := s, H_0 := H, env := cenv, outer := X.stack, ex := fp, fn := fun x => scope.names.lookup x == some .cell, pn := [], xe := fun _ _ => False }
section
variable {X : Cx} {pins : List (Addr × Obj)} {σ : St} {H : Hp} {s : Shared}
theorem block_start {scope : Scope} {own : List (Str × Nat)} {fp : List Addr} (I : Inv X pins σ H s) (ok : BlkOk X.N X.env.scope scope own) (hN : X.N.Nodup) (hfp : ∀ b ∈ fp, FpOk X pins H b ∧ b < s.heap.objs.size) :
    Inv (X.blk s H scope (compEnvC scope (cellsFrom (s.heap.objs.size + 1) scope.names (cloFrom X.env.cells scope.names [])) s.heap.objs.size X.env) fp) [] (wipe σ (own.map (·.2))) H { s with heap := pushCells (s.heap.push { cls := .type "dict", data := .dict #[] }) scope.names } := by
  have hfree : ∀ y ∈ scope.names, y.2 = .free → ∃ c, X.env.cells.lookup y.1 = some c := fun y hy e => by
    rcases ok.free y hy e with k | k
    · exact I.ok.has _ (.inl k)
    · exact I.ok.has _ (.inr k)
  generalize hcenv : compEnvC scope (cellsFrom (s.heap.objs.size + 1) scope.names (cloFrom X.env.cells scope.names [])) s.heap.objs.size X.env = cenv
  have kp : ∀ b o, s.heap.get? b = some o → (pushCells (s.heap.push { cls := .type "dict", data := .dict #[] }) scope.names).get? b = some o := fun b o e => pushCells_keeps _ _ _ _ (Heap.get?_push_of_some _ e)
  have hL : cenv.locals = s.heap.objs.size := by rw [← hcenv]; rfl
  have hcl : cenv.cells = cellsFrom (s.heap.objs.size + 1) scope.names (cloFrom X.env.cells scope.names []) := by rw [← hcenv]; rfl
  have hsc : cenv.scope = relS scope X.env.scope := by rw [← hcenv]; rfl
  rw [← Heap.size_push s.heap { cls := .type "dict", data := .dict #[] }] at hcl
  have cm : ∀ {y c}, (y, c) ∈ cloFrom X.env.cells scope.names [] → X.env.cells.lookup y = some c ∧ c < s.heap.objs.size := fun {y c} hm => by
    rcases cloFrom_mem hm with hm | ⟨h1, rfl⟩
    · cases hm
    · obtain ⟨c, hc⟩ := hfree _ h1 rfl
      rw [hc]
      obtain ⟨w, z⟩ := I.cell _ _ hc
      exact ⟨rfl, z.lt⟩
  have mem : ∀ {y c}, cenv.cells.lookup y = some c → (X.env.cells.lookup y = some c ∧ c < s.heap.objs.size) ∨ (s.heap.objs.size + 1 ≤ c ∧ CellAt (pushCells (s.heap.push { cls := .type "dict", data := .dict #[] }) scope.names) c none) := fun {y c} e => by
    rw [hcl] at e
    rcases cells_mem (PySem.mem_of_lookup e) with hm | ⟨_, h2, h3⟩
    · exact .inl (cm hm)
    · rw [Heap.size_push] at h2; exact .inr ⟨h2, h3⟩
  have look : ∀ {y}, scope.names.lookup y = some .free → ∃ c, cenv.cells.lookup y = some c ∧ X.env.cells.lookup y = some c := fun {y} hl => by
    have hy : (y, NameKind.free) ∈ scope.names := PySem.mem_of_lookup hl
    obtain ⟨c', e'⟩ := mem_lookup (cells_acc (names := scope.names) (n := (s.heap.push { cls := .type "dict", data := .dict #[] }).objs.size) (cloFrom_has (cells := X.env.cells) (acc := []) hy))
    rw [← hcl] at e'
    refine ⟨c', e', ?_⟩
    rw [hcl] at e'
    rcases cells_mem (PySem.mem_of_lookup e') with hm | ⟨h1, _, _⟩
    · exact (cm hm).1
    · have := ok.uniq _ h1
      rw [hl] at this; cases this
  have okB : (X.blk s H scope cenv fp).Ok := by
    refine ⟨I.ok.mod, by show cenv.scope.kind = _; rw [hsc]; exact ok.kind, by show cenv.globals = _; rw [← hcenv]; exact I.ok.glob, by show cenv.builtins = _; rw [← hcenv]; exact I.ok.blt, by show s.heap.objs.size ≤ cenv.locals; rw [hL]; exact Nat.le_refl _,
      fun y z c e1 e2 => ?_, fun y hy => ?_, fun y c z e => ?_, I.ok.hd, I.ok.frames, .inl rfl, fun b hb => ⟨?_, fun y c e z => ?_⟩, I.bs, Nat.le_trans I.ok.bsz I.sz, fun b o e hb => ?_, fun b hb z => ?_, I.stack, I.stkFree⟩
    · have e1 : cenv.cells.lookup y = some c := e1
      have e2 : cenv.cells.lookup z = some c := e2
      rw [hcl] at e1 e2
      refine cells_inj (fun p hp => ?_) (fun y z c a b => I.ok.inj y z c (cm a).1 (cm b).1) (PySem.mem_of_lookup e1) (PySem.mem_of_lookup e2)
      rw [Heap.size_push]
      exact Nat.lt_succ_of_lt (cm (y := p.1) (c := p.2) hp).2
    · show ∃ c, cenv.cells.lookup y = some c
      have key : ∀ k, cenv.kindOf y = some k → (k = .cell ∨ k = .free) → ∃ c, cenv.cells.lookup y = some c := fun k hk hk' => by
        unfold Env.kindOf at hk
        rw [hsc] at hk
        obtain ⟨k', e, r⟩ := lookup_relS hk
        have : k' = .cell ∨ k' = .free := by
          rcases r with rfl | ⟨rfl, _⟩
          · exact hk'
          · exact .inr rfl
        rcases this with rfl | rfl
        · obtain ⟨c, hm⟩ := cells_has (n := (s.heap.push { cls := .type "dict", data := .dict #[] }).objs.size) (acc := cloFrom X.env.cells scope.names []) (PySem.mem_of_lookup e)
          obtain ⟨c', e'⟩ := mem_lookup hm
          exact ⟨c', by rw [hcl]; exact e'⟩
        · obtain ⟨c, h1, _⟩ := look e
          exact ⟨c, h1⟩
      rcases hy with hy | hy
      · exact key _ hy (.inl rfl)
      · exact key _ hy (.inr rfl)
    · have z : (scope.names.lookup y == some NameKind.cell) = true := z
      have z : scope.names.lookup y = some .cell := by simpa using z
      have e : cenv.cells.lookup y = some c := e
      rw [hcl] at e
      rcases cells_mem (PySem.mem_of_lookup e) with hm | ⟨_, h2, _⟩
      · rcases cloFrom_mem hm with hm | ⟨h1, _⟩
        · cases hm
        · have q := ok.uniq _ h1
          rw [z] at q; cases q
      · rw [Heap.size_push] at h2
        exact Nat.le_of_succ_le h2
    · show b ≠ cenv.locals
      rw [hL]; exact Nat.ne_of_lt (hfp b hb).2
    · have e : cenv.cells.lookup y = some c := e
      rcases mem e with ⟨h1, _⟩ | ⟨h1, _⟩
      · exact (hfp b hb).1.2.2.2.2.1 y c h1 z
      · have h2 : s.heap.objs.size + 1 ≤ b := by rw [← z]; exact h1
        exact absurd (Nat.lt_of_lt_of_le (hfp b hb).2 (Nat.le_of_succ_le h2)) (Nat.lt_irrefl _)
    · rcases (hfp b hb).1.2.2.2.1 with z | z
      · exact I.ok.noex b o e z
      · exact absurd (Nat.lt_of_lt_of_le (Heap.lt_size e) (Nat.le_trans I.ok.bsz z)) (Nat.lt_irrefl _)
    · rcases List.mem_cons.mp (I.stkSub b z) with z | z
      · exact (hfp b hb).1.2.1 z
      · exact (hfp b hb).1.2.2.1 z
  refine ⟨okB, rfl, I.bare, Un.kept kp, ⟨fun _ => none, ?_, fun i y av e1 e2 e3 => ?_⟩, fun y c e => ?_, ?_, fun y c e => ?_, fun p hp => ?_, I.hok.kept kp, by rw [wipe_length]; exact I.len⟩
  · show Heap.Ns _ cenv.locals _
    rw [hL]
    exact Heap.Ns.keeps (Heap.Ns.new ..) fun b o e => pushCells_keeps _ _ _ _ e
  · obtain ⟨e2, hne⟩ := wipe_some e2
    have hfr : scope.names.lookup y = some .free ∧ (cenv.kindOf y = some .cell ∨ cenv.kindOf y = some .free) := by
      have key : ∀ k, cenv.scope.names.lookup y = some k → k = .local ∨ k = .cell ∨ k = .free → scope.names.lookup y = some .free ∧ (cenv.kindOf y = some .cell ∨ cenv.kindOf y = some .free) := fun k hk hk' => by
        have hk0 := hk
        rw [hsc] at hk
        obtain ⟨k', e, r⟩ := lookup_relS hk
        have no : ¬ (k' = .local ∨ k' = .cell) := fun hh => by
          rcases ok.own _ (PySem.mem_of_lookup e) hh with e' | e'
          · obtain ⟨p, hp, hpy⟩ := List.mem_map.mp e'
            have e3 := ok.ix p hp
            have : p.1 = y := hpy
            rw [this] at e3
            exact hne (List.mem_map.mpr ⟨p, hp, nodup_ix hN e3 e1⟩)
          · exact e' (List.mem_of_getElem? e1)
        rcases r with rfl | ⟨rfl, rfl⟩
        · rcases hk' with rfl | rfl | rfl
          · exact absurd (.inl rfl) no
          · exact absurd (.inr rfl) no
          · exact ⟨e, .inr hk0⟩
        · exact ⟨e, .inl hk0⟩
      have e3 : Vis cenv.scope y := e3
      rcases e3 with e3 | e3 | e3
      · exact key _ e3 (.inl rfl)
      · exact key _ e3 (.inr (.inl rfl))
      · exact key _ e3 (.inr (.inr rfl))
    obtain ⟨m, hn, hl⟩ := I.loc
    have hvis : Vis X.env.scope y := (ok.free _ (PySem.mem_of_lookup hfr.1) rfl).elim (fun k => .inr (.inl k)) (fun k => .inr (.inr k))
    obtain ⟨w, r, q⟩ := hl i y av e1 e2 hvis
    refine ⟨w, r, .inr ⟨hfr.2, ?_⟩⟩
    obtain ⟨c, h1, h2⟩ := look hfr.1
    rcases q with ⟨k, _⟩ | ⟨_, c', e', z⟩
    · have k : X.env.scope.names.lookup y = some .local := k
      rcases ok.free _ (PySem.mem_of_lookup hfr.1) rfl with k' | k' <;> rw [show X.env.scope.names.lookup y = _ from k'] at k <;> cases k
    · rw [h2] at e'; cases e'
      exact ⟨c, h1, z.keeps kp⟩
  · have e : cenv.cells.lookup y = some c := e
    rcases mem e with ⟨h1, _⟩ | ⟨_, z⟩
    · obtain ⟨w, z⟩ := I.cell y c h1
      exact ⟨w, z.keeps kp⟩
    · exact ⟨_, z⟩
  · show H cenv.locals = none
    rw [hL]; exact I.hok.fresh (Nat.le_refl _)
  · have e : cenv.cells.lookup y = some c := e
    rcases mem e with ⟨h1, _⟩ | ⟨h1, _⟩
    · exact I.freeC y c h1
    · exact I.hok.fresh (Nat.le_of_succ_le h1)
  · exact absurd (show p ∈ ([] : List (Addr × Obj)) ++ [] from hp) (by simp)

/-- an item appended to a tracked list -/
theorem app_ok {E : Value → Shared → Prop} {D : Addr} {xs : List V} {y : V} {v : Value} {Q : Value → Shared → Prop} (I : Inv X pins σ H s) (hD : H D = some (.lst xs)) (hz : xs.length < sizeLine) (r : RelV y v)
    (h : ∀ s', Inv X pins σ (upd H D (.lst (xs ++ [y]))) s' → Q .none s') : wpAny (model X.prog X.w) X.A (call (.builtin "list.append") [.ref D, v]) Q E s := by
  obtain ⟨hz', its, n, ri, e⟩ := I.hok D _ hD
  have hl := ri.length
  refine append_at (hsz := by rw [List.size_toArray]; omega) e fun h' sb ho' => ?_
  refine h { s with heap := h' } (I.write (t' := s.toks) (by rw [hD]; trivial) (.inl rfl) (fun b u hb q => (sb.2 b hb).trans q) ⟨_, ho'⟩ ⟨by rw [List.length_append]; exact hz, its ++ [v], n + 1, ri.append (.cons r .nil), ?_⟩)
  rw [ho']
  simp

/-- a clause's tests -/
def PTs (X : Cx) (ifs : List Expr) (t : TT) : Prop :=
  ∀ (pins : List (Addr × Obj)) (s : Shared) (σ : St) (H : Hp) (Q : Bool → Hp → Prop), Inv X pins σ H s → t σ H Q →
    wpAny (model X.prog X.w) X.A (forIn ifs true fun c r => if r = true then do let ok ← isTrue c X.env (eval c X.env); pure (ForInStep.yield ok) else pure (ForInStep.yield r)) (TP X pins σ Q) X.xe s
def tYes : TT := fun _ H Q => Q true H
theorem pts_nil : PTs X [] tYes := fun _ _ _ H _ I h => wpAny_tests_nil ⟨H, I, h⟩
theorem pts_one {c : Expr} {t : TT} (h : PT X c t) : PTs X [c] t := fun pins s σ H Q I hw => wpAny_tests_one (h pins s σ H Q I hw)
end

theorem thnF {α : Type} {t : Sem α} {Q Q' : α → Shared → Prop} {M : Model} {A : Around} {E : Value → Shared → Prop} {s : Shared} (h : wpAny M A t Q (fun _ _ => False) s) (hQ : ∀ a s, Q a s → Q' a s) : wpAny M A t Q' E s := wpAny_mono h hQ fun _ _ z => False.elim z

/-- the loop of a list comprehension's block, the target of any form (codeAny_compLoop_tests asks a target that no tuple goes to; statement and proof follow it, PyProof/CompMap.lean:41-61, with the step letOwnedTupleGo kept) -/
theorem compLoop_any {prog : Program} {w : World} {A : Around} {R : Result → Shared → Prop} {s : Shared} {elt target iter : Expr} {ifs : List Expr} {scope : Scope} {pos : Pos} {it acc : Value} {env : Env} (I : Nat → Shared → Prop)
    (turn : ∀ n s, I n s → wpAny (model prog w) A (pyNext it) (fun r s₁ => match r with
      | none => R (.ok .next) s₁
      | some v => wpAny (model prog w) A (letOwnedTupleGo target it v) (fun _ s₁' => wpAny (model prog w) A (assign target env v) (fun _ s₂ =>
          wpAny (model prog w) A (forIn ifs true fun c r => if r = true then do let ok ← isTrue c env (eval c env); pure (ForInStep.yield ok) else pure (ForInStep.yield r)) (fun ok s₃ =>
            if ok = true then wpAny (model prog w) A (eval elt env) (fun x s₄ =>
              wpAny (model prog w) A (call (.builtin "list.append") [acc, x]) (fun _ s₅ => ∃ m, m < n ∧ I m s₅) (notedBy (model prog w) A env fun e s' => R (.error e) s') s₄) (notedBy (model prog w) A env fun e s' => R (.error e) s') s₃
            else ∃ m, m < n ∧ I m s₃) (notedBy (model prog w) A env fun e s' => R (.error e) s') s₂) (notedBy (model prog w) A env fun e s' => R (.error e) s') s₁') (notedBy (model prog w) A env fun e s' => R (.error e) s') s₁) (notedBy (model prog w) A env fun e s' => R (.error e) s') s)
    (n : Nat) (h : I n s) :
    codeAny (model prog w) A (.compLoop (.ListComp elt [⟨target, iter, ifs, 0⟩] scope pos) 0 it acc env) R s := by
  refine codeAny_loop rfl I (fun n s hI => ?_) n h
  show wpAny _ A ((compTurn (.ListComp elt [⟨target, iter, ifs, 0⟩] scope pos) 0 it acc env).onRaise (fun x => do noteFrame x env; theTreesLotGoes x)) _ _ s
  refine wpAny_noted ?_
  rw [compTurn_list]
  refine wpAny_bind (wpAny_standAt (wpAny_bind (wpAny_mono (turn n s hI) (fun r s₁ h₁ => ?_) fun _ _ h' => h')))
  cases r with
  | none => exact wpAny_pure h₁
  | some v =>
    refine wpAny_bind (wpAny_mono h₁ (fun _ s₁' h₁' => ?_) fun _ _ h' => h')
    refine wpAny_bind (wpAny_mono h₁' (fun _ s₂ h₂ => wpAny_bind (wpAny_mono h₂ (fun ok s₃ h₃ => ?_) fun _ _ h' => h')) fun _ _ h' => h')
    cases ok with
    | false => exact wpAny_pure ⟨rfl, h₃⟩
    | true =>
      exact wpAny_bind (wpAny_bind (wpAny_mono h₃ (fun x s₄ h₄ => wpAny_bind (wpAny_mono h₄ (fun _ s₅ h₅ => wpAny_pure (wpAny_pure ⟨rfl, h₅⟩)) fun _ _ h' => h')) fun _ _ h' => h'))

section
variable {X : Cx}
/-- [elt for target in iter if ..]: D the new list; W by the turn and a measure, Nx what a turn is to reach -/
def tLc (wi : TI) (g : TG) (tt : TT) (te : TE) (vs : List Nat) : TE := fun σ H Q => wi σ H fun J H1 => ∀ D, H1 D = none → ∃ W : Nat → Nat → Hp → Prop, (∃ m, W 0 m (upd H1 D (.lst []))) ∧ ∀ i m H, W i m H →
  (J.stop i H ∧ Q (.ref D) H) ∨ (J.go i H ∧ ∃ Nx : Hp → Prop, (∀ H', Nx H' → ∃ m', m' < m ∧ W (i + 1) m' H') ∧ ∀ x H', J.yld i H x H' → g x (wipe σ vs) H' fun σ2 H2 => wipe σ2 vs = wipe σ vs ∧ tt σ2 H2 fun b H3 =>
    if b = true then te σ2 H3 fun y H4 => ∃ acc, H4 D = some (.lst acc) ∧ acc.length < sizeLine ∧ Nx (upd H4 D (.lst (acc ++ [y]))) else Nx H3)
theorem lc_core {pins : List (Addr × Obj)} {s : Shared} {σ : St} {H : Hp} {Q : VK} {elt tg iter : Expr} {ifs : List Expr} {scope : Scope} {own : List (Str × Nat)} {pos pos' : Pos} {wi : TI} {g : TG} {tt : TT} {te : TE} {use : Option (Value → Sem Unit)} {Qf : Value → Shared → Prop}
    (hc : X.calm = true) (hN : X.N.Nodup) (I : Inv X pins σ H s) (hi : PI X tg iter wi) (ok : BlkOk X.N X.env.scope scope own)
    (hg : ∀ (s : Shared) (H : Hp) (C : Addr) (cl : List (Str × Addr)) (fp : List Addr), PG (X.blk s H scope (compEnvC scope cl C X.env) fp) tg g) (ht : ∀ (s : Shared) (H : Hp) (C : Addr) (cl : List (Str × Addr)) (fp : List Addr), PTs (X.blk s H scope (compEnvC scope cl C X.env) fp) ifs tt)
    (he : ∀ (s : Shared) (H : Hp) (C : Addr) (cl : List (Str × Addr)) (fp : List Addr), PE (X.blk s H scope (compEnvC scope cl C X.env) fp) elt te) (hs : ∀ x, foldedSetIterable iter X.env x = pure x)
    (h : tLc wi g tt te (own.map (·.2)) σ H Q)
    (hRR : ∀ D C s' m H', Inv X pins σ H' s' → Q (.ref D) H' → s'.heap.Ns C m → FpOk X pins H' C → compPost (model X.prog X.w) X.A X.xe use Qf (.ref D) C (.ok .next) s') :
    wpAny (model X.prog X.w) X.A (comprehension (.ListComp elt [⟨tg, iter, ifs, 0⟩] scope pos) scope X.env pos' (newList []) false (eval iter X.env) use) Qf X.xe s := by
  have hfree : ∀ y ∈ scope.names, y.2 = .free → ∃ c, X.env.cells.lookup y.1 = some c := fun y hy e => by
    rcases ok.free y hy e with k | k
    · exact I.ok.has _ (.inl k)
    · exact I.ok.has _ (.inr k)
  refine wpAny_comprehension_free (use := use) rfl hs (closure_ok hfree) ok.kind (fun y hy e => by rw [ok.uniq y hy, e])
    (thn (hi pins s σ H _ I h) fun xv s1 hx => thn hx fun itv s2 h2 => ?_)
  obtain ⟨it, fp, tn, J, H2, e, I2, T, st2, f2, q⟩ := h2
  subst e
  refine wpAny_newObj_type (newEnv_comp ?_) (by show 0 ≤ sizeLine; decide)
  generalize hD : s2.heap.objs.size = D
  have hDn : H2 D = none := I2.hok.fresh (Nat.le_of_eq hD)
  obtain ⟨W, ⟨m0, w0⟩, turn⟩ := q D hDn
  -- the new list
  generalize hs3 : ({ s2 with heap := s2.heap.push { cls := .type "list", data := .seq ([] : List Value).toArray } } : Shared) = s3
  have I3 : Inv X pins σ (upd H2 D (.lst [])) s3 := by
    rw [← hs3]
    refine I2.laid (t' := s2.toks) (fun b o e => Heap.get?_push_of_some _ e) (Nat.le_of_eq hD) ⟨Nat.zero_le _, [], 0, .nil, ?_⟩
    rw [← hD]
    exact Heap.get?_push_size _ rfl
  have h3 : s3.heap = s2.heap.push { cls := .type "list", data := .seq ([] : List Value).toArray } := by rw [← hs3]
  have sz : ∀ b ∈ fp, b < s2.heap.objs.size := fun b hb => by
    obtain ⟨o, e, _⟩ := T.obj _ _ st2 b hb
    exact Heap.lt_size e
  have f3 : ∀ b ∈ fp, FpOk X pins (upd H2 D (.lst [])) b ∧ b < s3.heap.objs.size := fun b hb => by
    have hlt := sz b hb
    refine ⟨⟨?_, (f2 b hb).2⟩, by rw [h3, Heap.size_push]; exact Nat.lt_succ_of_lt hlt⟩
    rw [upd_ne (by rw [← hD]; exact Nat.ne_of_lt hlt)]
    exact (f2 b hb).1
  have st3 : tn 0 s3.heap := T.keep _ _ _ st2 fun b _ o e => by rw [h3]; exact Heap.get?_push_of_some _ e
  have I4 := block_start I3 ok hN f3
  have pg := hg s3 (upd H2 D (.lst [])) s3.heap.objs.size (cellsFrom (s3.heap.objs.size + 1) scope.names (cloFrom X.env.cells scope.names [])) fp
  have pt := ht s3 (upd H2 D (.lst [])) s3.heap.objs.size (cellsFrom (s3.heap.objs.size + 1) scope.names (cloFrom X.env.cells scope.names [])) fp
  have pe := he s3 (upd H2 D (.lst [])) s3.heap.objs.size (cellsFrom (s3.heap.objs.size + 1) scope.names (cloFrom X.env.cells scope.names [])) fp
  show codeAny _ _ (.compStart (.ListComp elt [⟨tg, iter, ifs, 0⟩] scope pos) 0 (.ref it) (.ref D) (compEnvC scope (cellsFrom (s3.heap.objs.size + 1) scope.names (cloFrom X.env.cells scope.names [])) s3.heap.objs.size X.env)) (compPost (model X.prog X.w) X.A X.xe use Qf (.ref D) s3.heap.objs.size) { s3 with heap := pushCells (s3.heap.push { cls := .type "dict", data := .dict #[] }) scope.names }
  have nfp : ∀ b ∈ fp, (upd H2 D (.lst [])) b = none := fun b hb => (f3 b hb).1.1
  generalize hce : compEnvC scope (cellsFrom (s3.heap.objs.size + 1) scope.names (cloFrom X.env.cells scope.names [])) s3.heap.objs.size X.env = ce at I4 pg pt pe ⊢
  have cL : ce.locals = s3.heap.objs.size := by subst hce; rfl
  generalize hH3 : upd H2 D (.lst []) = H3 at I3 I4 pg pt pe w0 nfp f3
  generalize hs4 : ({ s3 with heap := pushCells (s3.heap.push { cls := .type "dict", data := .dict #[] }) scope.names } : Shared) = s4 at I4 ⊢
  have st4 : tn 0 s4.heap := T.keep _ _ _ st3 fun b _ o e => by rw [← hs4]; exact pushCells_keeps _ _ _ _ (Heap.get?_push_of_some _ e)
  have stat : ∀ {σ' : St} {H' : Hp} {s' : Shared}, Inv (X.blk s3 H3 scope ce fp) [] σ' H' s' → (∀ b ∈ fp, H' b = none) → ∀ b ∈ fp, FpOk (X.blk s3 H3 scope ce fp) [] H' b := fun {σ' H' s'} I' hn b hb =>
    ⟨hn b hb, (I'.ok.exf b hb).1, I'.ok.exfs b hb, .inl hb, fun x c e => (I'.ok.exf b hb).2 x c e, fun p hp => absurd (show p ∈ ([] : List (Addr × Obj)) ++ [] from hp) (by simp)⟩
  have loop : codeAny (model X.prog X.w) X.A (.compLoop (.ListComp elt [⟨tg, iter, ifs, 0⟩] scope pos) 0 (.ref it) (.ref D) ce) (compPost (model X.prog X.w) X.A X.xe use Qf (.ref D) s3.heap.objs.size) s4 := by
    refine compLoop_any (fun n s' => ∃ i H', Inv (X.blk s3 H3 scope ce fp) [] (wipe σ (own.map (·.2))) H' s' ∧ tn i s'.heap ∧ (∀ b ∈ fp, H' b = none) ∧ W i n H') ?_ m0 ⟨0, H3, I4, st4, nfp, w0⟩
    rintro n s5 ⟨i, H5, I5, st5, n5, w5⟩
    rcases turn i n H5 w5 with ⟨stop, qq⟩ | ⟨go, Nx, hNx, step⟩
    · have td := T.done (X.blk s3 H3 scope ce fp) rfl rfl rfl hc i [] s5 _ H5 (fun _ _ => False) I5 (stat I5 n5) st5 stop
      refine thnF td fun r s6 ⟨hr, I6⟩ => ?_
      subst hr
      -- back in the def's context
      have I7 : Inv X pins σ H5 s6 := I3.call' (ch := fp) I6.os I6.base I6.hok I6.bare fun b hb => ⟨(f3 b hb).1.2.2.2.1, (f3 b hb).1.2.1, (f3 b hb).1.2.2.2.2.1, (f3 b hb).1.2.2.2.2.2⟩
      have nC : H5 s3.heap.objs.size = none := by
        have z : H5 ce.locals = none := I6.free
        rw [cL] at z
        exact z
      obtain ⟨m, hn, _⟩ := I6.loc
      have hn : s6.heap.Ns ce.locals m := hn
      rw [cL] at hn
      exact hRR D s3.heap.objs.size s6 m H5 I7 qq hn (I3.fpOk (Nat.le_refl _) nC)
    · have ti := T.item (X.blk s3 H3 scope ce fp) rfl rfl rfl hc i [] s5 _ H5 (fun _ _ => False) I5 (stat I5 n5) st5 go
      refine thnF ti fun r s6 ⟨u, hr, h6⟩ => ?_
      subst hr
      refine thnF h6 fun _ s7 ⟨x, H7, I7, r7, y7, st7, n7⟩ => ?_
      have I7' := I7.pinned (stat I7 n7) (T.obj _ _ st7)
      refine thnF (pg _ s7 _ H7 x u _ I7' r7 (step x H7 y7)) fun _ s8 ⟨σ8, H8, I8, hw8, q8⟩ => ?_
      refine thnF (pt _ s8 σ8 H8 _ I8 q8) fun b s9 ⟨H9, I9, q9⟩ => ?_
      -- the turn's end
      have fin : ∀ {s' : Shared} {H' : Hp}, Inv (X.blk s3 H3 scope ce fp) ([] ++ pinsAt fp s7.heap) σ8 H' s' → Nx H' → ∃ m, m < n ∧ ∃ i H', Inv (X.blk s3 H3 scope ce fp) [] (wipe σ (own.map (·.2))) H' s' ∧ tn i s'.heap ∧ (∀ b ∈ fp, H' b = none) ∧ W i m H' := fun {s' H'} I' nx => by
        obtain ⟨m', hm, w'⟩ := hNx H' nx
        have pin' : ∀ b ∈ fp, ∀ o, s7.heap.get? b = some o → s'.heap.get? b = some o ∧ H' b = none := fun b hb o e =>
          let z := I'.pin (b, o) (List.mem_append_right _ (List.mem_append_right _ (mem_pinsAt hb e)))
          ⟨z.1, z.2.1⟩
        have hl : (wipe σ (own.map (·.2))).length = σ8.length := by rw [← hw8, wipe_length]
        refine ⟨m', hm, i + 1, H', (I'.unpinned (pins := [])).weak hl (fun j v e => ?_), T.keep _ _ _ st7 fun b hb o e => (pin' b hb o e).1, fun b hb => ?_, w'⟩
        · rw [← hw8] at e
          exact (wipe_some e).1
        · obtain ⟨o, e, _⟩ := T.obj _ _ st7 b hb
          exact (pin' b hb o e).2
      cases b with
      | false =>
        simp only [Bool.false_eq_true, if_false] at q9 ⊢
        exact fin I9 q9
      | true =>
        simp only [if_true] at q9 ⊢
        refine thnF (pe _ s9 σ8 H9 _ I9 q9) fun z s10 ⟨yv, H10, I10, r10, acc, hD10, hz10, nx⟩ => ?_
        exact app_ok (X := X.blk s3 H3 scope ce fp) I10 hD10 hz10 r10 fun s11 I11 => fin I11 nx
  exact codeAny_compStart_list loop (T.self X.A 0 _ _ _ st4 loop)
/-- as a value -/
theorem pe_lc {elt tg iter : Expr} {ifs : List Expr} {scope : Scope} {own : List (Str × Nat)} {pos : Pos} {wi : TI} {g : TG} {tt : TT} {te : TE} (hc : X.calm = true) (hN : X.N.Nodup) (hi : PI X tg iter wi) (ok : BlkOk X.N X.env.scope scope own)
    (hg : ∀ (s : Shared) (H : Hp) (C : Addr) (cl : List (Str × Addr)) (fp : List Addr), PG (X.blk s H scope (compEnvC scope cl C X.env) fp) tg g) (ht : ∀ (s : Shared) (H : Hp) (C : Addr) (cl : List (Str × Addr)) (fp : List Addr), PTs (X.blk s H scope (compEnvC scope cl C X.env) fp) ifs tt)
    (he : ∀ (s : Shared) (H : Hp) (C : Addr) (cl : List (Str × Addr)) (fp : List Addr), PE (X.blk s H scope (compEnvC scope cl C X.env) fp) elt te) (hs : ∀ x, foldedSetIterable iter X.env x = pure x := by intro _; rfl) :
    PE X (.ListComp elt [⟨tg, iter, ifs, 0⟩] scope pos) (tLc wi g tt te (own.map (·.2))) := by
  intro pins s σ H Q I h
  rw [eval_ListComp]
  refine lc_core hc hN I hi ok hg ht he hs h fun D C s' m H' I' q hn f => ⟨m, hn, fun h'' sb => ?_⟩
  obtain ⟨f0, f1, f2, f3, f4, f5⟩ := f
  exact ⟨.ref D, H', I'.turned (t' := s'.toks) (fun b o hb e => (sb.2 b hb).trans e) f0 f1 f3 f4 f5, rfl, q⟩
/-- name = [..] on one line, the name a local -/
theorem ps_setLc {i : Nat} {y : Str} {py : Pos} {elt tg iter : Expr} {ifs : List Expr} {scope : Scope} {own : List (Str × Nat)} {pos spos : Pos} {wi : TI} {g : TG} {tt : TT} {te : TE} (hc : X.calm = true) (hN : X.N.Nodup) (hy : X.N[i]? = some y) (hyl : X.env.scope.names.lookup y = some .local)
    (hsw : swapsWith (.ListComp elt [⟨tg, iter, ifs, 0⟩] scope pos) (some (.Name y py)) spos.line X.env = pure true) (hi : PI X tg iter wi) (ok : BlkOk X.N X.env.scope scope own)
    (hg : ∀ (s : Shared) (H : Hp) (C : Addr) (cl : List (Str × Addr)) (fp : List Addr), PG (X.blk s H scope (compEnvC scope cl C X.env) fp) tg g) (ht : ∀ (s : Shared) (H : Hp) (C : Addr) (cl : List (Str × Addr)) (fp : List Addr), PTs (X.blk s H scope (compEnvC scope cl C X.env) fp) ifs tt)
    (he : ∀ (s : Shared) (H : Hp) (C : Addr) (cl : List (Str × Addr)) (fp : List Addr), PE (X.blk s H scope (compEnvC scope cl C X.env) fp) elt te) (hs : ∀ x, foldedSetIterable iter X.env x = pure x := by intro _; rfl) :
    PS X (.Assign [.Name y py] (.ListComp elt [⟨tg, iter, ifs, 0⟩] scope pos) spos) (tAsg (tLc wi g tt te (own.map (·.2))) (gName i)) := by
  intro pins s σ H D I h
  rw [exec_Assign_Name_used _ _ _ _ hsw]
  refine wpAny_bind (wpAny_standAt (wpAny_bind ?_))
  show wpAny _ X.A (do let _ ← comprehension (.ListComp elt [⟨tg, iter, ifs, 0⟩] scope pos) scope X.env (firstIterPos [⟨tg, iter, ifs, 0⟩] pos) (newList []) false (eval iter X.env) (some (assign (.Name y py) X.env))) _ _ s
  have h : tLc wi g tt te (own.map (·.2)) σ H (fun x H1 => gName i x σ H1 D.nx) := h
  refine wpAny_bind (thn (lc_core (Qf := fun _ s' => SP X pins D .next s') hc hN I hi ok hg ht he hs h fun L C s' m H' I' q hn f => ?_) fun _ s' hq => wpAny_pure (wpAny_pure hq))
  show wpAny _ _ (assign (.Name y py) X.env (.ref L)) _ _ _
  refine wpAny_assign_Name (store_ok2 (v := V.ref L) I' hN hy (.inl hyl) rfl (fun s2 I2 ⟨a, sb, ha⟩ => ?_) (.inr hyl))
  obtain ⟨f0, f1, f2, f3, f4, f5⟩ := f
  have haC : C ≠ a := by
    rcases ha with z | z
    · rw [z]; exact f1
    · exact fun e => f4 y a z e.symm
  refine ⟨m, hn.sameBut sb haC, fun h3 sb3 => ?_⟩
  exact ⟨_, H', I2.turned (t' := s2.toks) (fun b o hb e => (sb3.2 b hb).trans e) f0 f1 f3 f4 f5, q⟩
theorem sw_true {elt : Expr} {gs : List Comprehension} {scope : Scope} {pos py : Pos} {y : Str} {l : Nat} {env : Env} (hk : env.scope.kind = .function) (hy : env.scope.names.lookup y = some .local) (hl : (py.line == pos.line) = true)
    (ha : (scope.names.any fun (n, k) => n == y && (k == .local || k == .cell)) = false) : swapsWith (.ListComp elt gs scope pos) (some (.Name y py)) l env = pure true := by
  have ky : env.kindOf y = some .local := hy
  have hb : env.blockKind = .function := by unfold Env.blockKind; rw [hk]; rfl
  unfold swapsWith
  simp only [hb, ky, ha, Expr.pos, hl]
  rfl
end

/-! ### the forms one uses -/
/-- over a list that the block leaves as it is -/
theorem lc_list {K : PySem.W.Frag} {a : Addr} {xs : List V} {g : TG} {tt : TT} {te : TE} {vs : List Nat} {σ : St} {H1 : Hp} {D : Addr} {Qd : Hp → Prop} (Pv : Nat → Hp → Prop) (h0 : Pv 0 (upd H1 D (.lst []))) (hl : ∀ i H, i ≤ xs.length → Pv i H → SqL K H a xs)
    (hs : ∀ i x H, xs[i]? = some x → Pv i H → g x (wipe σ vs) H fun σ2 H2 => wipe σ2 vs = wipe σ vs ∧ tt σ2 H2 fun b H3 =>
      if b = true then te σ2 H3 fun y H4 => ∃ acc, H4 D = some (.lst acc) ∧ acc.length < sizeLine ∧ Pv (i + 1) (upd H4 D (.lst (acc ++ [y]))) else Pv (i + 1) H3) (hd : ∀ H, Pv xs.length H → Qd H) :
    ∃ W : Nat → Nat → Hp → Prop, (∃ m, W 0 m (upd H1 D (.lst []))) ∧ ∀ i m H, W i m H →
      ((Itl K a).stop i H ∧ Qd H) ∨ ((Itl K a).go i H ∧ ∃ Nx : Hp → Prop, (∀ H', Nx H' → ∃ m', m' < m ∧ W (i + 1) m' H') ∧ ∀ x H', (Itl K a).yld i H x H' → g x (wipe σ vs) H' fun σ2 H2 => wipe σ2 vs = wipe σ vs ∧ tt σ2 H2 fun b H3 =>
        if b = true then te σ2 H3 fun y H4 => ∃ acc, H4 D = some (.lst acc) ∧ acc.length < sizeLine ∧ Nx (upd H4 D (.lst (acc ++ [y]))) else Nx H3) := by
  refine ⟨fun i m H => m = xs.length - i ∧ i ≤ xs.length ∧ Pv i H, ⟨xs.length, by simp, Nat.zero_le _, h0⟩, ?_⟩
  rintro i m H ⟨rfl, hi, p⟩
  have q := hl i H hi p
  by_cases hlt : i < xs.length
  · refine .inr ⟨⟨xs, xs[i], q, by simp [hlt]⟩, Pv (i + 1), fun H' p' => ⟨xs.length - (i + 1), by omega, rfl, hlt, p'⟩, fun x H' y => ?_⟩
    obtain ⟨e, y⟩ := y
    subst e
    exact hs i x _ (y xs q) p
  · have e : i = xs.length := by omega
    subst e
    exact .inl ⟨⟨xs, q, Nat.le_refl _⟩, hd H p⟩
def blkC (N : List Str) (sc scope : Scope) (own : List (Str × Nat)) : Bool :=
  (match scope.kind with | .function => true | _ => false) && (scope.names.all fun y => decide (scope.names.lookup y.1 = some y.2)) && (own.all fun p => decide (N[p.2]? = some p.1)) &&
    (scope.names.all fun y => match y.2 with
      | .free => (match sc.names.lookup y.1 with | some .cell => true | some .free => true | _ => false)
      | .local => decide (y.1 ∈ own.map (·.1)) || decide (y.1 ∉ N)
      | .cell => decide (y.1 ∈ own.map (·.1)) || decide (y.1 ∉ N)
      | _ => true)
theorem blkOk_by {N : List Str} {sc scope : Scope} {own : List (Str × Nat)} (h : blkC N sc scope own = true) : BlkOk N sc scope own := by
  unfold blkC at h
  simp only [Bool.and_eq_true, List.all_eq_true, decide_eq_true_eq] at h
  obtain ⟨⟨⟨h1, h2⟩, h3⟩, h4⟩ := h
  refine ⟨?_, h2, h3, fun y hy e => ?_, fun y hy e => ?_⟩
  · split at h1
    · assumption
    · cases h1
  · have q := h4 y hy
    simp only [e] at q
    split at q <;> first | exact .inl (by assumption) | exact .inr (by assumption) | cases q
  · have q := h4 y hy
    rcases e with e | e <;> (simp only [e, Bool.or_eq_true, decide_eq_true_eq] at q; exact q)
end L2

namespace L2
open PySem PySem.Spec PyProof.Rows

section
variable {prog : Program} {w : World} {A : Around} {R : Result → Shared → Prop} {s : Shared} {elt t0 i0 t1 i1 : Expr} {ifs0 ifs1 : List Expr} {scope : Scope} {pos : Pos} {it acc : Value} {env : Env}
end

section
variable {X : Cx}
/-- [elt for tg in iter if .. for tg1 in iter1 if ..]: behind the first clause's store and tests the second source's own loop, from which Nx is reached. vs: the block's names; vs1: those of the second target -/
def tLc2 (wi : TI) (g : TG) (tt : TT) (wi1 : TI) (g1 : TG) (tt1 : TT) (te : TE) (vs vs1 : List Nat) : TE := fun σ H Q => wi σ H fun J H1 => ∀ D, H1 D = none → ∃ W : Nat → Nat → Hp → Prop, (∃ m, W 0 m (upd H1 D (.lst []))) ∧ ∀ i m H, W i m H →
  (J.stop i H ∧ Q (.ref D) H) ∨ (J.go i H ∧ ∃ Nx : Hp → Prop, (∀ H', Nx H' → ∃ m', m' < m ∧ W (i + 1) m' H') ∧ ∀ x H', J.yld i H x H' → g x (wipe σ vs) H' fun σ2 H2 => wipe σ2 vs = wipe σ vs ∧ tt σ2 H2 fun b H3 =>
    if b = true then wi1 σ2 H3 fun J1 H4 => ∃ W1 : Nat → Nat → Hp → Prop, (∃ m, W1 0 m H4) ∧ ∀ j k H, W1 j k H →
      (J1.stop j H ∧ Nx H) ∨ (J1.go j H ∧ ∃ Nx1 : Hp → Prop, (∀ H', Nx1 H' → ∃ k', k' < k ∧ W1 (j + 1) k' H') ∧ ∀ x H', J1.yld j H x H' → g1 x (wipe σ2 vs1) H' fun σ3 H5 => wipe σ3 vs1 = wipe σ2 vs1 ∧ tt1 σ3 H5 fun b H6 =>
        if b = true then te σ3 H6 fun y H7 => ∃ acc, H7 D = some (.lst acc) ∧ acc.length < sizeLine ∧ Nx1 (upd H7 D (.lst (acc ++ [y]))) else Nx1 H6)
    else Nx H3)
end
end L2

namespace L2
open PySem PySem.Spec PyProof.Rows

/-! ### lists of pairs as tables -/
section
variable {κ : Type} [DecidableEq κ]
def valV (kvs : List (κ × V)) (k : κ) : Option V := (kvs.find? fun kv => decide (kv.1 = k)).map (·.2)
/-- in its place, or at the end -/
def putK (kvs : List (κ × V)) (k : κ) (v : V) : List (κ × V) :=
  if (kvs.any fun kv => decide (kv.1 = k)) = true then kvs.map (fun kv => if kv.1 = k then (kv.1, v) else kv) else kvs ++ [(k, v)]
def dropK (kvs : List (κ × V)) (k : κ) : List (κ × V) := kvs.filter fun kv => decide (kv.1 ≠ k)

end


/-! ### a tracked dict, its keys ints and texts or tuples of these -/
/-- raw entries of a dict with tuple keys -/
abbrev KT (H : Hp) : List (List Key × V) → List (List Key × Addr × Value) → Prop := Paired fun p q => p.1 = q.1 ∧ H q.2.1 = some (.tup (p.1.map kV)) ∧ RelV p.2 q.2.2
section
variable {P : Program} {w : World} {H : Hp} {h : Heap} {a : Addr}
end

/-- what the dict at a holds at the key y -/
def DGet (H : Hp) (a : Addr) (y : V) (r : Option V) : Prop :=
  (∃ kvs k, Rd H a (.dK kvs) ∧ y = kV k ∧ r = valV kvs k) ∨ ∃ kvs k b, Rd H a (.dT kvs) ∧ y = .ref b ∧ H b = some (.tup (k.map kV)) ∧ r = valV kvs k
/-- the heap behind a[y] = v -/
def DPut (H : Hp) (a : Addr) (y v : V) (H' : Hp) : Prop :=
  (∃ kvs k, H a = some (.dK kvs) ∧ y = kV k ∧ kvs.length < sizeLine ∧ H' = upd H a (.dK (putK kvs k v))) ∨
  ∃ kvs k b, H a = some (.dT kvs) ∧ y = .ref b ∧ H b = some (.tup (k.map kV)) ∧ kvs.length < sizeLine ∧ H' = upd H a (.dT (putK kvs k v))
section
variable {X : Cx} {pins : List (Addr × Obj)} {σ : St} {H : Hp} {s : Shared} {a : Addr} {y v : V} {u r : Value} {o : Option V} {A : Around} {E : Value → Shared → Prop}

end

section
variable {X : Cx} {pins : List (Addr × Obj)} {σ : St} {H : Hp} {s : Shared} {a : Addr} {kvs : List (Key × V)} {k : Key} {u : Value} {A : Around} {E : Value → Shared → Prop}
end


/-! ### readings and rules -/
/-- the element of a subscription, not a slice -/
def NoSl (i : Expr) : Prop := ∀ ov iv, subscripted i false ov iv = operate [ov, iv] (getItem ov iv)
/-- d[y] -/
def tDGet (td ty : TE) : TE := fun σ H Q => td σ H fun x H1 => ty σ H1 fun y H2 => ∃ a v, x = .ref a ∧ DGet H2 a y (some v) ∧ Q v H2
/-- y in d, y not in d -/
def tDIn (ty td : TE) : TE := fun σ H Q => ty σ H fun y H1 => td σ H1 fun x H2 => ∃ a o, x = .ref a ∧ DGet H2 a y o ∧ Q (.bl o.isSome) H2
def tDNotIn (ty td : TE) : TE := fun σ H Q => ty σ H fun y H1 => td σ H1 fun x H2 => ∃ a o, x = .ref a ∧ DGet H2 a y o ∧ Q (.bl (!o.isSome)) H2
/-- d[y] = v -/
def sDPut (td ty tv : TE) : TS := fun D σ H => tv σ H fun v H1 => td σ H1 fun x H2 => ty σ H2 fun y H3 => ∃ a H4, x = .ref a ∧ DPut H3 a y v H4 ∧ D.nx σ H4
/-- d[y] op= v -/
def sDAug (td ty tv : TE) (rd : V → V → Hp → VK → Prop) : TS := fun D σ H => td σ H fun x H1 => ty σ H1 fun y H2 => ∃ a v, x = .ref a ∧ DGet H2 a y (some v) ∧
  tv σ H2 fun y2 H3 => rd v y2 H3 fun z H4 => ∃ H5, DPut H4 a y z H5 ∧ D.nx σ H5
/-- del d[y] -/
def sDDel (td ty : TE) : TS := fun D σ H => td σ H fun x H1 => ty σ H1 fun y H2 => ∃ a kvs k, x = .ref a ∧ H2 a = some (.dK kvs) ∧ y = kV k ∧ (valV kvs k).isSome = true ∧ D.nx σ (upd H2 a (.dK (dropK kvs k)))

section
variable {X : Cx} {o i e value : Expr} {pos pos' tpos : Pos} {td ty tv : TE}
end


/-! ### displays -/
/-- {}, to be a dict of the kind that is wanted -/
def tDNewK : TE := fun _ H Q => ∀ p, H p = none → Q (.ref p) (upd H p (.dK []))
def tDNewT : TE := fun _ H Q => ∀ p, H p = none → Q (.ref p) (upd H p (.dT []))
section
variable {X : Cx} {pos : Pos}
end

/-- the pairs of a display, from the left -/
def tPairs : List (TE × TE) → St → Hp → (List (V × V) → Hp → Prop) → Prop
  | [], _, H, Q => Q [] H
  | (tk, tv) :: r, σ, H, Q => tk σ H fun x H1 => tv σ H1 fun y H2 => tPairs r σ H2 fun ps H3 => Q ((x, y) :: ps) H3
abbrev VV : List (V × V) → List (Value × Value) → Prop := Paired fun p q => RelV p.1 q.1 ∧ RelV p.2 q.2
def PPs (X : Cx) (pos : Pos) (keys : List (Option Expr)) (values : List Expr) (trs : List (TE × TE)) : Prop :=
  ∀ (pins : List (Addr × Obj)) (s : Shared) (σ : St) (H : Hp) (Q : List (V × V) → Hp → Prop), Inv X pins σ H s → tPairs trs σ H Q →
    wpAny (model X.prog X.w) X.A (evalPairs (pairTrees keys values X.env pos)) (fun vs s' => ∃ ps H', Inv X pins σ H' s' ∧ VV ps vs ∧ Q ps H') X.xe s
def mergeK (kvs more : List (Key × V)) : List (Key × V) := more.foldl (fun acc kv => putK acc kv.1 kv.2) kvs
/-- {k: v, ..} with keys ints and texts; the new dict stands empty while the pairs are made -/
def tDisp (trs : List (TE × TE)) : TE := fun σ H Q => ∀ p, H p = none → tPairs trs σ (upd H p (.dK [])) fun ps H2 => H2 p = some (.dK []) ∧ ∃ kvs : List (Key × V), ps = kvs.map (fun kv => (kV kv.1, kv.2)) ∧ kvs.length ≤ 15 ∧ Q (.ref p) (upd H2 p (.dK (mergeK [] kvs)))
/-! ### methods -/
/-- a method call o.m(e) of a built-in, with one argument: what must be seen of the text -/
structure M1 (X : Cx) (o : Expr) (m : Str) (apos : Pos) (e : Expr) (cpos : Pos) : Prop where
  base : attributeBase o m X.env (eval o X.env) = eval o X.env
  few : ((backTo cpos (starEach [e] X.env)).all (fun x => !x.1) && (backToKw cpos (keywordEach [] X.env)).all (fun x => x.1.isSome)
    && decide (([e] : List Expr).length + ([] : List Keyword).length + (if ([] : List Keyword).isEmpty then 0 else 1) < 30)) = true
  line : (apos.endLine == cpos.line) = true
  trees : backTo cpos (starEach [e] X.env) = [(false, eval e X.env)]
structure M2 (X : Cx) (o : Expr) (m : Str) (apos : Pos) (e f : Expr) (cpos : Pos) : Prop where
  base : attributeBase o m X.env (eval o X.env) = eval o X.env
  few : ((backTo cpos (starEach [e, f] X.env)).all (fun x => !x.1) && (backToKw cpos (keywordEach [] X.env)).all (fun x => x.1.isSome)
    && decide (([e, f] : List Expr).length + ([] : List Keyword).length + (if ([] : List Keyword).isEmpty then 0 else 1) < 30)) = true
  line : (apos.endLine == cpos.line) = true
  trees : backTo cpos (starEach [e, f] X.env) = [(false, eval e X.env), (false, eval f X.env)]

/-- a is a dict, whatever its keys -/
def IsD (H : Hp) (a : Addr) : Prop := (∃ kvs, Rd H a (.dK kvs)) ∨ ∃ kvs, Rd H a (.dT kvs)
section
variable {X : Cx} {pins : List (Addr × Obj)} {σ : St} {H : Hp} {s : Shared} {a : Addr} {y d : V} {u r : Value} {o : Option V} {A : Around} {E : Value → Shared → Prop}
end

def tDGet1 (td ty : TE) : TE := fun σ H Q => td σ H fun x H1 => ∃ a, x = .ref a ∧ IsD H1 a ∧ ty σ H1 fun y H2 => ∃ o, DGet H2 a y o ∧ Q (o.getD .non) H2
def tDGet2 (td ty tx : TE) : TE := fun σ H Q => td σ H fun x H1 => ∃ a, x = .ref a ∧ IsD H1 a ∧ ty σ H1 fun y H2 => tx σ H2 fun z H3 => ∃ o, DGet H3 a y o ∧ Q (o.getD z) H3
/-- d.pop(k): there; d.pop(k, x): there or not -/
def tDPop1 (td ty : TE) : TE := fun σ H Q => td σ H fun x H1 => ∃ a, x = .ref a ∧ IsD H1 a ∧ ty σ H1 fun y H2 => ∃ kvs k v, H2 a = some (.dK kvs) ∧ y = kV k ∧ valV kvs k = some v ∧ Q v (upd H2 a (.dK (dropK kvs k)))
def tDPop2 (td ty tx : TE) : TE := fun σ H Q => td σ H fun x H1 => ∃ a, x = .ref a ∧ IsD H1 a ∧ ty σ H1 fun y H2 => tx σ H2 fun z H3 => ∃ kvs k, H3 a = some (.dK kvs) ∧ y = kV k ∧
  (∀ v, valV kvs k = some v → Q v (upd H3 a (.dK (dropK kvs k)))) ∧ (valV kvs k = none → Q z H3)
section
variable {X : Cx} {o e f : Expr} {apos cpos : Pos} {td ty tx : TE}
end

/-! ### dict(d): a copy -/
section
variable {X : Cx} {pins : List (Addr × Obj)} {σ : St} {H : Hp} {s : Shared} {a : Addr} {kvs : List (Key × V)} {A : Around} {E : Value → Shared → Prop}
end


section
variable {X : Cx} {pins : List (Addr × Obj)} {σ : St} {H : Hp} {s : Shared} {a : Addr} {y : V} {u : Value} {A : Around} {E : Value → Shared → Prop}
end
end L2

namespace L2
open PySem PySem.Spec PyProof.Rows

section
variable {prog : Program} {w : World} {A : Around} {E : Value → Shared → Prop}
end

section
variable {X : Cx}
end
end L2

namespace L2
open PySem PySem.Spec PyProof.Rows

section
variable {X : Cx} {pins : List (Addr × Obj)} {σ : St} {H : Hp} {s : Shared} {h' : Heap}
/-- several records of ours have turned -/
theorem Inv.turnedL {t' : Nat} {ch : List Addr} (I : Inv X pins σ H s) (k : ∀ b o, b ∉ ch → s.heap.get? b = some o → h'.get? b = some o) (hf : ∀ b ∈ ch, FpOk X pins H b) : Inv X pins σ H { s with heap := h', toks := t' } := by
  have nit : ∀ b u, H b = some u → b ∉ ch := fun b u e z => by
    have q := (hf b z).1
    rw [q] at e; cases e
  refine I.step (g' := s.gens) (d' := s.drawn) (ch := ch) (fun b hb => ⟨(hf b hb).2.2.2.1, (hf b hb).2.1, (hf b hb).2.2.2.2.1, (hf b hb).2.2.2.2.2⟩) (fun b o _ _ hc e _ => k b o hc e) (fun b o _ _ hc e _ => ⟨o.slots, k b o hc e⟩)
    (fun _ _ _ _ n => n) (fun b o hc e => ⟨o, k b o hc e⟩) (fun _ _ e => e) (fun _ _ _ e => e) (fun b ps e => ⟨#[], by rw [e]; simp⟩) (fun m hm => ?_) (fun b u e => ?_) I.bare
  · obtain ⟨o, es, ep, ho, r⟩ := hm
    exact ⟨o, es, ep, k _ o (fun z => (hf _ z).2.1 rfl) ho, r⟩
  · refine (I.hok b u e).stay (fun c v hc q => k c v ?_ q) (fun _ q => q) fun _ _ q => q
    rcases hc with z | z
    · rw [z]; exact nit b u e
    · exact nit c _ z
/-- .. and one new object is laid -/
theorem Inv.turnedNew {t' : Nat} {ch : List Addr} {T : Addr} {ob : HO} (I : Inv X pins σ H s) (k : ∀ b o, b ∉ ch → s.heap.get? b = some o → h'.get? b = some o) (hf : ∀ b ∈ ch, FpOk X pins H b) (hT : s.heap.objs.size ≤ T)
    (new : ObjOk X.prog X.w (upd H T ob) h' T ob) : Inv X pins σ (upd H T ob) { s with heap := h', toks := t' } := by
  have hn : H T = none := I.hok.fresh hT
  have nit : ∀ b u, H b = some u → b ∉ ch := fun b u e z => by
    have q := (hf b z).1
    rw [q] at e; cases e
  refine I.step (g' := s.gens) (d' := s.drawn) (ch := ch) (fun b hb => ⟨(hf b hb).2.2.2.1, (hf b hb).2.1, (hf b hb).2.2.2.2.1, (hf b hb).2.2.2.2.2⟩) (fun b o _ _ hc e _ => k b o hc e) (fun b o _ _ hc e _ => ⟨o.slots, k b o hc e⟩)
    (fun b o _ e n => ?_) (fun b o hc e => ⟨o, k b o hc e⟩) (fun b xs e => ?_) (fun b o u e => ?_) (fun b ps e => ⟨#[], ?_⟩) (fun m hm => ?_) (fun b u e => ?_) I.bare
  · rw [upd_ne (Nat.ne_of_lt (Nat.lt_of_lt_of_le (Heap.lt_size e) hT))]; exact n
  · rw [upd_ne (ne_of_none e hn)]; exact e
  · rw [upd_ne (ne_of_none e hn)]; exact e
  · rw [upd_ne (ne_of_none e hn), e]; simp
  · obtain ⟨o, es, ep, ho, r⟩ := hm
    exact ⟨o, es, ep, k _ o (fun z => (hf _ z).2.1 rfl) ho, r⟩
  · by_cases hb : b = T
    · subst hb
      rw [upd_same] at e
      cases e
      exact new
    · rw [upd_ne hb] at e
      refine (I.hok b u e).stay (fun c v hc q => k c v ?_ q) (fun c q => by rw [upd_ne (ne_of_none q hn)]; exact q) fun c xs q => by rw [upd_ne (ne_of_none q hn)]; exact q
      rcases hc with z | z
      · rw [z]; exact nit b u e
      · exact nit c _ z

/-! ### locking a thing while a statement runs -/
end
/-- the statement runs while the thing at d is locked (read, not written); d and what stands there are the reading's choice -/
def tLock (t : TS) : TS := fun D σ H => ∃ d u, H d = some u ∧ Mut (some u) ∧ ∀ od, t ⟨fun σ' H' => H' d = some (.frz od u) ∧ D.nx σ' (upd H' d u), fun v H' => H' d = some (.frz od u) ∧ D.rt v (upd H' d u), fun σ' H' => H' d = some (.frz od u) ∧ D.bk σ' (upd H' d u), fun σ' H' => H' d = some (.frz od u) ∧ D.ct σ' (upd H' d u)⟩ σ (upd H d (.frz od u))
def tLockE (t : TE) : TE := fun σ H Q => ∃ d u, H d = some u ∧ Mut (some u) ∧ ∀ od, t σ (upd H d (.frz od u)) fun v H' => H' d = some (.frz od u) ∧ Q v (upd H' d u)
section
variable {X : Cx}
/-! ### one iterator just laid -/
end

/-! ### range with a step -/
/-- lo, lo + c, .. (n of them) -/
def Itc (lo c : Int) (n : Nat) : It := ⟨fun i _ => i < n, fun i H x H' => H' = H ∧ x = .int (lo + (i : Nat) * c), fun i _ => n ≤ i⟩
/-- range(i, j, c): small bounds, n items -/
def RgC (i j c : Int) (n : Nat) : Prop := c ≠ 0 ∧ c.natAbs < 1073741824 ∧ Builtin.Range.small i j c = true ∧ Builtin.Range.rangeSize i j c = n
def iRng3 (ta : TA) : TI := fun σ H R => ta σ H fun vs H1 => ∃ (i j c : Int) (n : Nat), vs = [.int i, .int j, .int c] ∧ RgC i j c n ∧ R (Itc i c n) H1
section
variable {X : Cx} {tg : Expr}
end
/-! ### reversed(list) -/
/-- the list at a (n items at the start, which the loop leaves there), from its end -/
def Itv (K : PySem.W.Frag) (a : Addr) (n : Nat) : It :=
  ⟨fun i H => i < n ∧ ∃ (xs : List V) (x : V), SqL K H a xs ∧ xs[n - 1 - i]? = some x, fun i H x H' => H' = H ∧ ∀ xs, SqL K H a xs → xs[n - 1 - i]? = some x, fun i _ => n ≤ i⟩
def iRev (K : PySem.W.Frag) (ta : TA) : TI := fun σ H R => ta σ H fun vs H1 => ∃ (a : Addr) (xs : List V), vs = [.ref a] ∧ SqL K H1 a xs ∧ R (Itv K a xs.length) H1
section
variable {X : Cx} {tg : Expr}
end

/-! ### a str -/
def Its (x : Str) : It := ⟨fun i _ => i < x.cps.size, fun i H v H' => H' = H ∧ ∃ c, x.cps[i]? = some c ∧ v = .str ⟨#[c]⟩, fun i _ => x.cps.size ≤ i⟩
def iStr (te : TE) : TI := fun σ H R => te σ H fun v H1 => ∃ x, v = .str x ∧ R (Its x) H1
/-! ### a dict's keys: any dict's entries -/
section
variable {prog : Program} {w : World} {A : Around} {E : Value → Shared → Prop} {s : Shared}
end

/-! ### a locked dict -/
section
variable {X : Cx} {pins : List (Addr × Obj)} {σ : St} {H : Hp} {s : Shared} {d : Addr} {o : Obj}
end

/-- the keys of the locked dict at d, in their order -/
def Itk (d : Addr) (o : Obj) (kvs : List (Key × V)) : It :=
  ⟨fun i H => H d = some (.frz o (.dK kvs)) ∧ i < kvs.length, fun i H x H' => H' = H ∧ ∃ k v, kvs[i]? = some (k, v) ∧ x = kV k, fun i H => H d = some (.frz o (.dK kvs)) ∧ kvs.length ≤ i⟩
/-- .. of tuple keys: the key's own tuple -/
def Itkt (d : Addr) (o : Obj) (kvs : List (List Key × V)) : It :=
  ⟨fun i H => H d = some (.frz o (.dT kvs)) ∧ i < kvs.length, fun i H x H' => H' = H ∧ ∃ (k : List Key) (v : V) (q : Addr), kvs[i]? = some (k, v) ∧ x = .ref q ∧ H q = some (.tup (k.map kV)), fun i H => H d = some (.frz o (.dT kvs)) ∧ kvs.length ≤ i⟩
/-- the values -/
def Itd (d : Addr) (o : Obj) (kvs : List (Key × V)) : It :=
  ⟨fun i H => H d = some (.frz o (.dK kvs)) ∧ i < kvs.length, fun i H x H' => H' = H ∧ ∃ k, kvs[i]? = some (k, x), fun i H => H d = some (.frz o (.dK kvs)) ∧ kvs.length ≤ i⟩
/-- the pairs, each a new tuple -/
def Iti (d : Addr) (o : Obj) (kvs : List (Key × V)) : It :=
  ⟨fun i H => H d = some (.frz o (.dK kvs)) ∧ i < kvs.length, fun i H x H' => ∃ T k v, kvs[i]? = some (k, v) ∧ x = .ref T ∧ H T = none ∧ H' = upd H T (.tup [kV k, v]), fun i H => H d = some (.frz o (.dK kvs)) ∧ kvs.length ≤ i⟩
section
variable {P : Program} {w : World} {K : PySem.W.Frag} {tg : Expr} {d : Addr} {o : Obj} {es : Array DictEntry} {ep : Nat}
end

/-! ### for k in d, d.keys(), d.values(), d.items() -/
/-- the dict is locked (tLock, or by the caller) -/
def iKeys (td : TE) : TI := fun σ H R => td σ H fun x H1 => ∃ d o, x = .ref d ∧ ((∃ kvs, H1 d = some (.frz o (.dK kvs)) ∧ R (Itk d o kvs) H1) ∨ ∃ kvs, H1 d = some (.frz o (.dT kvs)) ∧ R (Itkt d o kvs) H1)
def iVals (td : TE) : TI := fun σ H R => td σ H fun x H1 => ∃ d o kvs, x = .ref d ∧ H1 d = some (.frz o (.dK kvs)) ∧ R (Itd d o kvs) H1
def iItems (td : TE) : TI := fun σ H R => td σ H fun x H1 => ∃ d o kvs, x = .ref d ∧ H1 d = some (.frz o (.dK kvs)) ∧ R (Iti d o kvs) H1
def iKeysM (td : TE) : TI := fun σ H R => td σ H fun x H1 => ∃ d o kvs, x = .ref d ∧ H1 d = some (.frz o (.dK kvs)) ∧ R (Itk d o kvs) H1
section
variable {X : Cx} {tg e : Expr} {td : TE} {apos cpos : Pos}
end

/-! ### enumerate(list) -/
/-- the list at a as it stands at each turn, each item in a new pair -/
def Ite (K : PySem.W.Frag) (a : Addr) : It :=
  ⟨fun i H => ∃ (xs : List V) (x : V), SqL K H a xs ∧ xs[i]? = some x, fun i H v H' => ∃ T x, v = .ref T ∧ H T = none ∧ H' = upd H T (.tup [.int (i : Nat), x]) ∧ ∀ xs, SqL K H a xs → xs[i]? = some x, fun i H => ∃ xs : List V, SqL K H a xs ∧ xs.length ≤ i⟩
theorem turn_enum {P : Program} {w : World} {K : PySem.W.Frag} {elts : List Expr} {kk : Nat} {tpos : Pos} (a e it : Addr) :
    Turn P w K (.Tuple elts kk tpos) (Ite K a) [e, it] e (fun i h => (∃ old, IsEnum h e it ((i : Nat) : Int) old) ∧ h.IsListIter it a i ∧ e ≠ it) where
  mem := by simp
  obj := fun i h st b hb => by
    obtain ⟨⟨old, he⟩, ⟨o, ho, hc, hd⟩, _⟩ := st
    have e' : b = e ∨ b = it := by simpa using hb
    rcases e' with z | z
    · rw [z]; exact ⟨_, he, fun v q => nomatch q⟩
    · rw [z]; exact ⟨o, ho, fun v q => by rw [hd] at q; cases q⟩
  keep := fun i h h' st k => let ⟨⟨old, he⟩, hi, hne⟩ := st; ⟨⟨old, k e (by simp) _ he⟩, hi.at fun o q => k it (by simp) o q, hne⟩
  item := by
    intro X hP hw hK hc i pins s σ H E I hf st hg
    subst hP hw hK
    obtain ⟨⟨old, he⟩, hit, hne⟩ := st
    obtain ⟨xs, x, hq, hx⟩ := hg
    obtain ⟨its, rv, p, hz⟩ := I.list hq
    obtain ⟨u, hu, ru⟩ := rv.get hx
    have hel : e < s.heap.objs.size := Heap.lt_size he
    have hil : it < s.heap.objs.size := by obtain ⟨_, q, _⟩ := hit; exact Heap.lt_size q
    refine wpAny_pyNext_enum_item he hit p.isList (x := u) (by simpa using hu) hne fun h' ho hit' hT hsz hk => ?_
    refine ⟨_, rfl, wpAny_letOwnedTupleGo_enum (s := { s with heap := h', toks := s.toks + 1 }) ho fun h'' he' sb => ?_⟩
    have hT2 : h''.get? s.heap.objs.size = some { cls := .type "tuple", data := .seq #[.int i s.toks, u] } := (sb.2 _ (Nat.ne_of_gt hel)).trans hT
    have new : ObjOk X.prog X.w (upd H s.heap.objs.size (.tup [.int (i : Nat), x])) h'' s.heap.objs.size (.tup [.int (i : Nat), x]) :=
      ⟨by show 2 ≤ sizeLine; decide, [.int i s.toks, u], .cons ⟨_, rfl⟩ (.cons ru .nil), ⟨_, hT2, rfl, _, rfl⟩⟩
    have I1 : Inv X pins σ (upd H s.heap.objs.size (.tup [.int (i : Nat), x])) { s with heap := h'', toks := s.toks + 1 } :=
      I.turnedNew (ch := [e, it]) (fun b ob hb q => (sb.2 b (fun z => hb (by simp [z]))).trans (hk b ob (fun z => hb (by simp [z])) (fun z => hb (by simp [z])) q)) hf (Nat.le_refl _) new
    refine ⟨.ref s.heap.objs.size, _, I1, rfl, ⟨_, x, rfl, I.hok.fresh (Nat.le_refl _), rfl, fun ys hy => by rw [I.list_inj hy hq]; exact hx⟩, ⟨⟨u, ?_⟩, hit'.at fun o q => (sb.2 it (Ne.symm hne)).trans q, hne⟩, fun b hb => ?_⟩
    · have e1 : ((i + 1 : Nat) : Int) = (i : Int) + 1 := by omega
      rw [e1]; exact he'
    · have hb' : b < s.heap.objs.size := by
        have e' : b = e ∨ b = it := by simpa using hb
        rcases e' with z | z
        · rw [z]; exact hel
        · rw [z]; exact hil
      rw [upd_ne (Nat.ne_of_lt hb')]
      exact (hf b hb).1
  done := by
    intro X hP hw hK hc i pins s σ H E I hf st hg
    subst hP hw hK
    obtain ⟨⟨old, he⟩, hit, hne⟩ := st
    obtain ⟨xs, hq, hx⟩ := hg
    obtain ⟨its, rv, p, hz⟩ := I.list hq
    obtain ⟨f0, f1, f2, f3, f4, f5⟩ := hf it (by simp)
    have hl := rv.length
    exact wpAny_pyNext_enum_end (I.ok.hd hc) he hit p.isList (by simp; omega) fun h' eb => ⟨rfl, I.turned (t' := s.toks) (fun b o hb q => eb b o hb q) f0 f1 f3 f4 f5⟩
  self := fun A i s Q E st h => let ⟨⟨_, he⟩, _⟩ := st; wpAny_pyIter_enum he h
def iEnum (K : PySem.W.Frag) (ta : TA) : TI := fun σ H R => ta σ H fun vs H1 => ∃ a xs, vs = [.ref a] ∧ SqL K H1 a xs ∧ R (Ite K a) H1
theorem pi_enum {X : Cx} {e : Expr} {ta : TA} {p pos tpos : Pos} {elts : List Expr} {kk : Nat} (hg : Gl X "enumerate") (hm : X.mg "enumerate" = none) (ha : PA X [e] ta) (hs : starEach [e] X.env = [(false, eval e X.env)] := by rfl) :
    PI X (.Tuple elts kk tpos) (.Call (.Name "enumerate" p) [e] [] pos) (iEnum X.K ta) := by
  intro pins s σ H R I h
  refine Call_ (ld_blt I hg hm boot_enumerate (PyProof.Rows.callWith_type1 (thn (ha pos pins s σ H _ I h) fun us s1 ⟨vs, H1, I1, r1, q1⟩ => ?_) hs rfl))
  obtain ⟨a, xs, ex, hq, q⟩ := q1
  subst ex
  cases r1 with
  | cons r rr =>
    cases rr
    cases r
    obtain ⟨its, rv, p', hz⟩ := I1.list hq
    refine call_enumerate_list p'.isList fun h' he hit hsz hk => wpAny_pyIter_enum he ?_
    have I2 : Inv X pins σ H1 { s1 with heap := h' } := I1.kept (t' := s1.toks) hk
    refine ⟨s1.heap.objs.size + 1, [s1.heap.objs.size + 1, s1.heap.objs.size], _, _, H1, rfl, I2, turn_enum a (s1.heap.objs.size + 1) s1.heap.objs.size, ⟨⟨.none, he⟩, hit, Nat.succ_ne_self _⟩, fun b hb => ?_, q⟩
    have e' : b = s1.heap.objs.size + 1 ∨ b = s1.heap.objs.size := by simpa using hb
    have hle : s1.heap.objs.size ≤ b := by
      rcases e' with z | z
      · rw [z]; exact Nat.le_add_right _ _
      · rw [z]; exact Nat.le_refl _
    exact I1.fpOk hle (I1.hok.fresh hle)
/-! ### zip(list, list) -/
theorem boot_zip5 : bootBuiltins "zip" = some (.type "zip") := by decide +kernel
/-- the lists at a and b as they stand at each turn, the items in new pairs -/
def Itz (K : PySem.W.Frag) (a b : Addr) : It :=
  ⟨fun i H => ∃ (xs ys : List V) (x y : V), SqL K H a xs ∧ SqL K H b ys ∧ xs[i]? = some x ∧ ys[i]? = some y,
    fun i H v H' => ∃ T x y, v = .ref T ∧ H T = none ∧ H' = upd H T (.tup [x, y]) ∧ (∀ xs, SqL K H a xs → xs[i]? = some x) ∧ ∀ ys, SqL K H b ys → ys[i]? = some y,
    fun i H => ∃ xs ys : List V, SqL K H a xs ∧ SqL K H b ys ∧ (xs.length ≤ i ∨ ys.length ≤ i)⟩
theorem turn_zip {P : Program} {w : World} {K : PySem.W.Frag} {elts : List Expr} {kk : Nat} {tpos : Pos} {a b z TI TO i1 i2 : Addr} (D : ZipApart z TI TO i1 i2 a b) :
    Turn P w K (.Tuple elts kk tpos) (Itz K a b) [z, TI, TO, i1, i2] z (fun i h => IsZip h z TI TO .none ∧ IsPair h TI (.ref i1) (.ref i2) ∧ (∃ x y, IsPair h TO x y) ∧ h.IsListIter i1 a i ∧ h.IsListIter i2 b i) where
  mem := by simp
  obj := fun i h st c hc => by
    obtain ⟨hz, hTI, ⟨x, y, hTO⟩, ⟨o1, e1, _, d1⟩, ⟨o2, e2, _, d2⟩⟩ := st
    have e' : c = z ∨ c = TI ∨ c = TO ∨ c = i1 ∨ c = i2 := by simpa using hc
    rcases e' with q | q | q | q | q
    · rw [q]; exact ⟨_, hz, fun v q => nomatch q⟩
    · rw [q]; exact ⟨_, hTI, fun v q => nomatch q⟩
    · rw [q]; exact ⟨_, hTO, fun v q => nomatch q⟩
    · rw [q]; exact ⟨o1, e1, fun v q => by rw [d1] at q; cases q⟩
    · rw [q]; exact ⟨o2, e2, fun v q => by rw [d2] at q; cases q⟩
  keep := fun i h h' st k => by
    obtain ⟨hz, hTI, ⟨x, y, hTO⟩, h1, h2⟩ := st
    exact ⟨k z (by simp) _ hz, k TI (by simp) _ hTI, ⟨x, y, k TO (by simp) _ hTO⟩, h1.at fun o q => k i1 (by simp) o q, h2.at fun o q => k i2 (by simp) o q⟩
  item := by
    intro X hP hw hK hc i pins s σ H E I hf st hg
    subst hP hw hK
    obtain ⟨hz, hTI, ⟨x0, y0, hTO⟩, h1, h2⟩ := st
    obtain ⟨xs, ys, x, y, hqx, hqy, hx, hy⟩ := hg
    obtain ⟨its, rv, p, _⟩ := I.list hqx
    obtain ⟨its2, rv2, p2, _⟩ := I.list hqy
    obtain ⟨u, hu, ru⟩ := rv.get hx
    obtain ⟨u2, hu2, ru2⟩ := rv2.get hy
    have hzl : z < s.heap.objs.size := Heap.lt_size hz
    refine wpAny_pyNext_zip_item D hz hTI hTO h1 h2 p.isList p2.isList (x := u) (y := u2) (by simpa using hu) (by simpa using hu2) fun h' z' TO' h1' h2' hT hsz hk => ?_
    refine ⟨_, rfl, wpAny_letOwnedTupleGo_zip (s := { s with heap := h' }) z' fun h'' z'' sb => ?_⟩
    have hT2 : h''.get? s.heap.objs.size = some { cls := .type "tuple", data := .seq #[u, u2] } := (sb.2 _ (Nat.ne_of_gt hzl)).trans hT
    have new : ObjOk X.prog X.w (upd H s.heap.objs.size (.tup [x, y])) h'' s.heap.objs.size (.tup [x, y]) :=
      ⟨by show 2 ≤ sizeLine; decide, [u, u2], .cons ru (.cons ru2 .nil), ⟨_, hT2, rfl, _, rfl⟩⟩
    have I1 : Inv X pins σ (upd H s.heap.objs.size (.tup [x, y])) { s with heap := h'' } :=
      I.turnedNew (t' := s.toks) (ch := [z, TI, TO, i1, i2]) (fun c o hb q => (sb.2 c (fun q' => hb (by simp [q']))).trans (hk c o (fun q' => hb (by simp [q'])) (fun q' => hb (by simp [q'])) (fun q' => hb (by simp [q'])) (fun q' => hb (by simp [q'])) q)) hf (Nat.le_refl _) new
    refine ⟨.ref s.heap.objs.size, _, I1, rfl, ⟨_, x, y, rfl, I.hok.fresh (Nat.le_refl _), rfl, fun l hl => by rw [I.list_inj hl hqx]; exact hx, fun l hl => by rw [I.list_inj hl hqy]; exact hy⟩, ⟨z'', ?_, ⟨u, u2, ?_⟩, ?_, ?_⟩, fun c hcm => ?_⟩
    · exact (sb.2 _ D.TIz).trans (hk _ _ D.TIz D.TITO D.TIi1 D.TIi2 hTI)
    · exact (sb.2 _ D.TOz).trans TO'
    · exact h1'.at fun o q => (sb.2 _ D.i1z).trans q
    · exact h2'.at fun o q => (sb.2 _ D.i2z).trans q
    · have hlt : c < s.heap.objs.size := by
        have e' : c = z ∨ c = TI ∨ c = TO ∨ c = i1 ∨ c = i2 := by simpa using hcm
        rcases e' with q | q | q | q | q
        · rw [q]; exact hzl
        · rw [q]; exact Heap.lt_size hTI
        · rw [q]; exact Heap.lt_size hTO
        · rw [q]; obtain ⟨_, e1, _⟩ := h1; exact Heap.lt_size e1
        · rw [q]; obtain ⟨_, e2, _⟩ := h2; exact Heap.lt_size e2
      rw [upd_ne (Nat.ne_of_lt hlt)]
      exact (hf c hcm).1
  done := by
    intro X hP hw hK hc i pins s σ H E I hf st hg
    subst hP hw hK
    obtain ⟨hz, hTI, ⟨x0, y0, hTO⟩, h1, h2⟩ := st
    obtain ⟨xs, ys, hqx, hqy, hend⟩ := hg
    obtain ⟨its, rv, p, _⟩ := I.list hqx
    obtain ⟨its2, rv2, p2, _⟩ := I.list hqy
    have l1 := rv.length
    have l2 := rv2.length
    have he : its.toArray[i]? = none ∨ its2.toArray[i]? = none := by
      rcases hend with q | q
      · exact .inl (by simp; omega)
      · exact .inr (by simp; omega)
    exact wpAny_pyNext_zip_end (I.ok.hd hc) D hz hTI hTO h1 h2 p.isList p2.isList he fun h' hk => ⟨rfl, I.turnedL (t' := s.toks) (ch := [z, TI, TO, i1, i2]) (fun c o hb q =>
      hk c o (fun q' => hb (by simp [q'])) (fun q' => hb (by simp [q'])) (fun q' => hb (by simp [q'])) (fun q' => hb (by simp [q'])) q) hf⟩
  self := fun A i s Q E st h => wpAny_pyIter_zip st.1 h
def iZip (K : PySem.W.Frag) (ta : TA) : TI := fun σ H R => ta σ H fun vs H1 => ∃ a b xs ys, vs = [.ref a, .ref b] ∧ SqL K H1 a xs ∧ SqL K H1 b ys ∧ R (Itz K a b) H1
theorem pi_zip {X : Cx} {e e2 : Expr} {ta : TA} {p pos tpos : Pos} {elts : List Expr} {kk : Nat} (hg : Gl X "zip") (hm : X.mg "zip" = none) (ha : PA X [e, e2] ta)
    (hs : starEach [e, e2] X.env = (false, eval e X.env) :: starEach [e2] X.env := by rfl) (hpl : (backTo pos (starEach [e2] X.env)).any (·.1) = false := by rfl) :
    PI X (.Tuple elts kk tpos) (.Call (.Name "zip" p) [e, e2] [] pos) (iZip X.K ta) := by
  intro pins s σ H R I h
  refine Call_ (ld_blt I hg hm boot_zip5 (PyProof.Rows.callWith_type1 (thn (ha pos pins s σ H _ I h) fun us s1 ⟨vs, H1, I1, r1, q1⟩ => ?_) hs hpl))
  obtain ⟨a, b, xs, ys, ex, hqx, hqy, q⟩ := q1
  subst ex
  cases r1 with
  | cons r rr =>
    cases rr with
    | cons r' rr =>
      cases rr
      cases r
      cases r'
      obtain ⟨its, rv, p1, _⟩ := I1.list hqx
      obtain ⟨its2, rv2, p2, _⟩ := I1.list hqy
      have la : a < s1.heap.objs.size := p1.lt
      have lb : b < s1.heap.objs.size := p2.lt
      refine call_zip_2 p1.isList p2.isList fun h' hz hTI hTO h1 h2 hsz hk => wpAny_pyIter_zip hz ?_
      have I2 : Inv X pins σ H1 { s1 with heap := h' } := I1.kept (t' := s1.toks) hk
      refine ⟨s1.heap.objs.size + 4, [s1.heap.objs.size + 4, s1.heap.objs.size + 2, s1.heap.objs.size + 3, s1.heap.objs.size, s1.heap.objs.size + 1], _, _, H1, rfl, I2, turn_zip (PySem.W.ktu_apart s1.heap.objs.size a b la lb), ⟨hz, hTI, ⟨_, _, hTO⟩, h1, h2⟩, fun c hcm => ?_, q⟩
      have e' : c = s1.heap.objs.size + 4 ∨ c = s1.heap.objs.size + 2 ∨ c = s1.heap.objs.size + 3 ∨ c = s1.heap.objs.size ∨ c = s1.heap.objs.size + 1 := by simpa using hcm
      have hle : s1.heap.objs.size ≤ c := by
        rcases e' with z | z | z | z | z
        · rw [z]; exact Nat.le_add_right _ _
        · rw [z]; exact Nat.le_add_right _ _
        · rw [z]; exact Nat.le_add_right _ _
        · rw [z]; exact Nat.le_refl _
        · rw [z]; exact Nat.le_add_right _ _
      exact I1.fpOk hle (I1.hok.fresh hle)
end L2

section 
namespace Bits
open PySem PyProof.Rows

end Bits
end 

section 
namespace TL
open PySem PySem.Builtin PySem.Builtin.Str PySem.StrLaws

abbrev tl (x : Str) : List Nat := x.cps.toList
/-! ### the list functions -/
/-- S stands at the head of l -/
def pre (S l : List Nat) : Bool := l.take S.length == S
/-- l cut at each S from the left; k signs are still to be passed over -/
def spl (S : List Nat) : Nat → List Nat → List Nat → List (List Nat)
  | _, acc, [] => [acc]
  | 0, acc, c :: r => if pre S (c :: r) = true then acc :: spl S (S.length - 1) [] r else spl S 0 (acc ++ [c]) r
  | k + 1, acc, _ :: r => spl S k acc r
/-- what stands before the first S, and behind it -/
def par (S : List Nat) : List Nat → List Nat → Option (List Nat × List Nat)
  | _, [] => none
  | acc, c :: r => if pre S (c :: r) = true then some (acc, (c :: r).drop S.length) else par S (acc ++ [c]) r

/-! ### the model's split and partition are these -/
/-! ### computing spl and par -/
/-- joined lists -/
def joinL (S : List Nat) : List (List Nat) → List Nat
  | [] => []
  | [p] => p
  | p :: q :: r => p ++ (S ++ joinL S (q :: r))
/-! ### digits -/
/-- the signs of a number -/
def numL (n : Nat) : List Nat := (Nat.toDigits 10 n).map Char.toNat
/-! ### words: x.split() -/
def wstep (st : List (List Nat) × List Nat) (c : Nat) : List (List Nat) × List Nat :=
  if Unicode.isSpace c = true then (if st.2 = [] then st else (st.1 ++ [st.2], [])) else (st.1, st.2 ++ [c])
def wfin (st : List (List Nat) × List Nat) : List (List Nat) := if st.2 = [] then st.1 else st.1 ++ [st.2]
end TL
end 

namespace L2
open PySem PySem.Spec PyProof.Rows

/-- a new list of texts, tracked -/
def rNewStrs (ys : List Str) : Hp → VK → Prop := fun H Q => ∀ p, H p = none → Q (.ref p) (upd H p (.lst (ys.map V.str)))

section
variable {X : Cx} {pins : List (Addr × Obj)} {σ : St} {H : Hp} {s : Shared} {Q : VK}
end

section
variable {X : Cx}

/-! ### of a text alone -/
/-! ### of a text and a text -/
end

section
variable {X : Cx} {o e : Expr} {to te : TE}
def tM0 (r : V → List V → Hp → VK → Prop) (to : TE) : TE := fun σ H Q => to σ H fun x H1 => (∃ a, x = .str a) ∧ r x [] H1 Q
def tM1 (r : V → List V → Hp → VK → Prop) (to te : TE) : TE := fun σ H Q => to σ H fun x H1 => (∃ a, x = .str a) ∧ te σ H1 fun y H2 => r x [y] H2 Q
end
end L2

namespace L2
open PySem PySem.Spec PyProof.Rows

section
variable {X : Cx}
end

/-! ### slices of a text -/
/-- a part, clipped, as the text's slice reckons it -/
def clipS (n d : Nat) : Option Int → Int
  | none => (d : Int)
  | some i => max 0 (min (if i < 0 then i + (n : Int) else i) (n : Int))
/-- z[lo:hi] -/
def cutS (z : Str) (lo hi : Option Int) : Str :=
  ⟨((z.cps.toList.drop (HT.sIx z.length 0 lo)).take (HT.sIx z.length z.length hi - HT.sIx z.length 0 lo)).toArray⟩
def rSlS : V → Option Int → Option Int → Hp → VK → Prop := fun x lo hi H Q => ∃ z, x = .str z ∧ z.length ≤ sizeLine ∧ Q (.str (cutS z lo hi)) H
end L2

namespace Att
open PySem PySem.W PySem.Calls PyProof.Rows

/-! ### the script -/
/-! ### the attachment: holds_open's last premise (the goal 'hc' behind k_head) from a wpAny of the law's body -/
/-! ### rules over ANY heap (no ledger) from facts about the written part K: the library's own take a ledger (News) for what they write -/
section
variable {prog : Program} {w : World} {A : Around} {E : Value → Shared → Prop} {s : Shared} {K : Frag}

/-! the whole heap as the ledger: makes every rule that writes through a ledger a rule over any heap -/
def noObjs (h : Heap) : Heap := { h with objs := #[] }
def ledger (h : Heap) (L d : Addr) : List (Addr × Obj) := (List.range h.objs.size).filterMap fun a => if a = L ∨ a = d then none else (h.get? a).map fun o => (a, o)
end
end Att

namespace L2
open PySem PySem.Spec PyProof.Rows

/-- nothing is tracked but the script, known to the object (or it is an object of the module) -/
def Only (H : Hp) : Prop := ∀ b, H b = none ∨ ∃ o xs, H b = some (.frz o (.lst xs))

end L2

namespace L2
open PySem PySem.Spec PyProof.Rows

abbrev KOf {K : PySem.W.Frag} {h : Heap} (_ : K.In h) : PySem.W.Frag := K

end L2

/- THE LAST THEOREM (shape; LID, My.* are yours):
   My.Adr: a structure of the addresses that your layer names (classes, functions); My.Txt K t: a structure (Prop) of the equations over K;
   My.txt_mk : {K} {implicit addresses ..} (e1 : nsIn K mainGlobals "law" = some (some (.ref f))) (e2 : K.lookup f = some ⟨oc, od, .func (fnOf "law" "law" params body scope dV kV doc pm an cdv ct), sl⟩) (e3 : codeIn K cdv "law" = true) .. : ∃ t, My.Txt K t

set_option maxRecDepth 100000 in
set_option maxHeartbeats 0 in
theorem PySem.Challenge.cw_LID_holds : PySem.Challenge.rw_LID.Holds := by
  w_on; o_law; k_head; (case hw => w_witness2)
  k_fill
  refine L2.walk_of (l := PySem.Challenge.rw_LID) (n := 63) (k := 40) (x := "script") (CX := fun w => ..) (sp := fun _ => My.sp_law) rfl (by decide) rfl ⟨rfl, by decide, by decide⟩ (fun w h Y => PySem.W.kIn_of Y) ?F ?S ?C
  case F =>
    intro w mg fa h KX G hmg
    have T : ∃ t, My.Txt (L2.KOf KX) t := by
      dsimp only [L2.KOf]                          -- K must stand as «<heap const> w.params» for k_is
      refine' My.txt_mk ?e1 ?e2 ?e3 ..
      (case e1 => PySem.W.k_is)                    -- in the order: a name -> its address -> its object -> its parts
      (case e2 => PySem.W.k_is)
      ..
    obtain ⟨t, T⟩ := T
    have e0 := hmg.symm.trans (PySem.W.mg_of KX G T.law)
    cases e0                                       -- fa is the law's own address
    exact ⟨_, fun s u => .of_eq rfl, fun base kb nb => My.law_fn T kb nb⟩     -- if «.of_eq rfl» comes too early: refine' ⟨_, ?b, fun base kb nb => My.law_fn T kb nb⟩; exact fun s u => .of_eq rfl
  case S => exact fun w H a ns hl hO hS => ..
  case C => exact ..
(the tactic k_is has no namespace: write k_is) -/

/-! SHORT WORDS over the layer: a def of the text, its body, what a loop and a test want. -/
namespace L2
open PySem PySem.Spec PyProof.Rows

/-! ### the text by places -/
/-- the j-th statement of a class's body -/
def inClass (s : Stmt) (j : Nat) : Stmt := match s with
  | .ClassDef _ _ _ body _ _ _ _ _ _ _ => body.getD j (.Pass ⟨0, 0, 0, 0⟩)
  | _ => .Pass ⟨0, 0, 0, 0⟩
def defArgs (s : Stmt) : Arguments := match s with
  | .FunctionDef _ a _ _ _ _ _ _ _ _ => a
  | _ => { posonlyargs := [], args := [], vararg := none, kwonlyargs := [], kw_defaults := [], kwarg := none, defaults := [] }
def defBody (s : Stmt) : List Stmt := match s with
  | .FunctionDef _ _ b _ _ _ _ _ _ _ => b
  | _ => []
def defScope (s : Stmt) : Scope := match s with
  | .FunctionDef _ _ _ _ _ _ sc _ _ _ => sc
  | _ => { kind := .function, names := [], isGenerator := false, isCoroutine := false }

/-! ### no exception leaves a def -/
abbrev CX0 : CXT := fun _ _ _ _ _ _ => False
abbrev E0 : XK := fun _ _ _ => False
theorem pass0 {X : Cx} : Passes CX0 X E0 := fun _ _ _ _ _ _ _ h => h.elim

/-! ### a def (or method) of the text as it stands behind the top -/
structure Fun (K : PySem.W.Frag) (x qual : Str) (st : Stmt) (f : Addr) (fd : FuncData) : Prop where
  ex : ∃ (oc : Value) (od : Option Addr) (kV doc pm : Value) (an : Option Addr) (cdv ct : Value) (osl : Array (Option Value)),
    fd = PySem.W.fnOf x qual (defArgs st) (defBody st) (defScope st) .none kV doc pm an cdv ct ∧ K.lookup f = some ⟨oc, od, .func fd, osl⟩ ∧ PySem.W.codeIn K cdv qual = true
  kp : PySem.W.keepIn K (.ref f) = true
section
variable {P : Program} {w : World} {K : PySem.W.Frag} {mg : Str → Option Value} {base : Heap}
/-- THE RULE for a def: its body as a term of rules, and the reading of that term -/
theorem Fun.ok {x qual : Str} {st : Stmt} {f : Addr} {fd : FuncData} {N ps : List Str} {k : Nat} {sp : Sp} (F : Fun K x qual st f fd) (S : FnScope N ps (defScope st)) (len : ∀ vs H Q E, sp vs H Q E → vs.length = ps.length)
    (hbody : ∀ (cdv : Value) (A : Around) (outer : List Env) (s : Shared) (H : Hp) (vs : List V) (Q : VK) (E : XK), Room k (A.deeper (envOfC qual (defScope st) s.heap.objs.size f cdv)) → sp vs H Q E →
      ∃ t, PSs (cxOf CX0 P w K mg base N qual (defScope st) f cdv A outer s H E).nox (defBody st) t ∧ t { nx := fun _ H' => Q .non H', rt := Q } (start N vs) H) : FnOk P w K mg base CX0 (k + 1) f fd ps sp := by
  obtain ⟨oc, od, kV, doc, pm, an, cdv, ct, osl, rfl, lk, hcd⟩ := F.ex
  refine fn_of lk hcd S len fun A outer s H vs Q E hr hsp => ?_
  obtain ⟨t, h, q⟩ := hbody cdv A outer s H vs Q E hr hsp
  exact ⟨t, h.nox, q⟩
/-- how its arguments bind (no defaults): h is «fun _ _ _ _ _ _ us hl => match us, hl with | [_, _], _ => rfl», one _ a parameter -/
theorem Fun.binds {x qual : Str} {st : Stmt} {f : Addr} {fd : FuncData} {ps : List Str} (F : Fun K x qual st f fd)
    (h : ∀ (kV doc pm : Value) (an : Option Addr) (cdv ct : Value) (us : List Value), us.length = ps.length → bindArgs (PySem.W.fnOf x qual (defArgs st) (defBody st) (defScope st) .none kV doc pm an cdv ct) ⟨us, []⟩ = pure (ps.zip us)) : Binds K fd ps [] := by
  obtain ⟨oc, od, kV, doc, pm, an, cdv, ct, osl, rfl, lk, hcd⟩ := F.ex
  exact .all (h kV doc pm an cdv ct)
theorem fun_mk {x qual : Str} {st : Stmt} {f : Addr} {oc : Value} {od an : Option Addr} {osl : Array (Option Value)} {kV doc pm cdv ct : Value} (l : K.lookup f = some ⟨oc, od, .func (PySem.W.fnOf x qual (defArgs st) (defBody st) (defScope st) .none kV doc pm an cdv ct), osl⟩)
    (c : PySem.W.codeIn K cdv qual = true) (k : PySem.W.keepIn K (.ref f) = true) : Fun K x qual st f (PySem.W.fnOf x qual (defArgs st) (defBody st) (defScope st) .none kV doc pm an cdv ct) := ⟨⟨oc, od, kV, doc, pm, an, cdv, ct, osl, rfl, l, c⟩, k⟩
end
/-! ### expressions in short: the name that stands in the i-th slot -/
section
variable {X : Cx}
theorem pv (i : Nat) {x : Str} {pos : Pos} (hN : X.N[i]? = some x := by rfl) (hv : Vis X.env.scope x := by first | exact Or.inl rfl | exact Or.inr (Or.inl rfl) | exact Or.inr (Or.inr rfl)) (hd : (x == ("__debug__" : Str)) = false := by decide)
    (hcd : (x == ("__classdict__" : Str)) = false := by decide) : PE X (.Name x pos) (tVar i) := pe_var hN hv hd hcd
end

/-! ### tests -/
theorem iteF {A B : Prop} (h : B) : if false = true then A else B := by
  rw [if_neg Bool.false_ne_true]
  exact h
theorem iteT {A B : Prop} (h : A) : if true = true then A else B := by
  rw [if_pos rfl]
  exact h
theorem ite2 {c A B : Prop} [Decidable c] (h1 : c → A) (h2 : ¬ c → B) : if c then A else B := by
  by_cases h : c
  · rw [if_pos h]
    exact h1 h
  · rw [if_neg h]
    exact h2 h
/-! ### heaps -/
/-- all that was tracked is as it was -/
def Same (H H' : Hp) : Prop := ∀ b o, H b = some o → H' b = some o
theorem Same.refl (H : Hp) : Same H H := fun _ _ h => h
theorem Same.trans {H H1 H2 : Hp} (a : Same H H1) (b : Same H1 H2) : Same H H2 := fun c o h => b c o (a c o h)
theorem Same.free {H H' : Hp} (e : Same H H') {l : Addr} (h : H' l = Option.none) : H l = Option.none := by
  cases q : H l with
  | none => rfl
  | some o =>
    rw [e l o q] at h
    cases h
theorem Same.seq {K : PySem.W.Frag} {H H' : Hp} {a : Addr} {xs : List V} (e : Same H H') (h : SqL K H a xs) : SqL K H' a xs := by
  rcases h with (h | ⟨o, h⟩) | h
  · exact .inl (.inl (e _ _ h))
  · exact .inl (.inr ⟨o, e _ _ h⟩)
  · exact .inr h

/-! ### a dict's pairs: keys that differ -/
section
variable {κ : Type} [DecidableEq κ]
end
/-! ### lists -/
theorem at_of {xs : List V} {z : Int} {j : Nat} {v : V} (e : z = (j : Int)) (h : xs[j]? = some v) : atI xs z = some v := by
  rw [e]
  exact atI_nat h
end L2
end
section
/-! Rules of my own over the layer: all, any, sum of a list; x in a list of data; a module's constant. -/
set_option Elab.async false
set_option linter.all false
set_option maxRecDepth 100000
namespace L2
open PySem PySem.Spec PyProof.Rows
section
variable {X : Cx}
/-- a module's constant -/
theorem pe_gl {x : Str} {v : V} {pos : Pos} (hg : Gl X x) (hm : ∃ u, X.mg x = some u ∧ RelV v u) (hd : (x == ("__debug__" : Str)) = false := by decide) : PE X (.Name x pos) (tC v) := by
  obtain ⟨u, h1, h2⟩ := hm
  exact pe_glob hg h1 h2 hd

theorem bt_len : bootBuiltins "len" = some (.builtin "len") := by decide +kernel
theorem bt_all : bootBuiltins "all" = some (.builtin "all") := by decide +kernel
theorem bt_any : bootBuiltins "any" = some (.builtin "any") := by decide +kernel
theorem bt_sum : bootBuiltins "sum" = some (.builtin "sum") := by decide +kernel
theorem bt_max : bootBuiltins "max" = some (.builtin "max") := by decide +kernel
theorem bt_min : bootBuiltins "min" = some (.builtin "min") := by decide +kernel
theorem bt_divmod : bootBuiltins "divmod" = some (.builtin "divmod") := by decide +kernel
theorem bt_abs : bootBuiltins "abs" = some (.builtin "abs") := by decide +kernel
theorem bt_list : bootBuiltins "list" = some (.type "list") := by decide +kernel
theorem bt_tuple : bootBuiltins "tuple" = some (.type "tuple") := by decide +kernel

theorem bools_of : ∀ {bs : List Bool} {us : List Value}, Vals (bs.map V.bl) us → LSm.BoolsAre us bs
  | [], _, .nil => .nil
  | b :: bs, _, .cons r t => by
    cases r
    exact .cons b (bools_of t)
theorem call_all (hc : X.calm = true) : CallR X (.builtin "all") (fun xs H Q => ∃ p, ∃ bs : List Bool, xs = [.ref p] ∧ SqL X.K H p (bs.map V.bl) ∧ Q (.bl (bs.all id)) H) := by
  intro pins s σ H xs us Q I r h
  obtain ⟨p, bs, rfl, hq, q⟩ := h
  obtain ⟨u, rfl, ru⟩ := vals1 r
  cases ru
  obtain ⟨its, rv, pl, hz⟩ := I.list hq
  have hb := bools_of rv
  have hl := pl.isList
  have hlt : p < s.heap.objs.size := by obtain ⟨_, e, _⟩ := hl; exact Heap.lt_size e
  refine call_all_walk (wpAny_pyIter_list hl ?_)
  refine ⟨s.heap.objs.size, [s.heap.objs.size, p], [s.heap.objs.size], its.toArray.size, _, _, fun i => (bs[i]?).getD true, rfl, Walks.list (A := X.A.in1) (I.ok.hd hc) _ p (Nat.ne_of_lt hlt) its.toArray,
    ⟨⟨_, Heap.get?_push_size _ rfl, rfl, rfl⟩, hl.push _⟩, fun i v s' Q' E' hP hQ => ?_, fun h' tk hk => ?_⟩
  · obtain ⟨b, e, rfl⟩ := hb.get i v (by simpa using hP)
    simp only [e, Option.getD_some] at hQ
    exact wpAny_truthy_bool hQ
  · have e : ((List.range its.toArray.size).all fun i => (bs[i]?).getD true) = bs.all id := by
      rw [List.size_toArray, hb.length]; exact LSm.range_all bs
    rw [e]
    exact ⟨.bl _, H, I.kept (LSm.kept_iter hk), rfl, q⟩
theorem call_any (hc : X.calm = true) : CallR X (.builtin "any") (fun xs H Q => ∃ p, ∃ bs : List Bool, xs = [.ref p] ∧ SqL X.K H p (bs.map V.bl) ∧ Q (.bl (bs.any id)) H) := by
  intro pins s σ H xs us Q I r h
  obtain ⟨p, bs, rfl, hq, q⟩ := h
  obtain ⟨u, rfl, ru⟩ := vals1 r
  cases ru
  obtain ⟨its, rv, pl, hz⟩ := I.list hq
  have hb := bools_of rv
  have hl := pl.isList
  have hlt : p < s.heap.objs.size := by obtain ⟨_, e, _⟩ := hl; exact Heap.lt_size e
  refine call_any_walk (wpAny_pyIter_list hl ?_)
  refine ⟨s.heap.objs.size, [s.heap.objs.size, p], [s.heap.objs.size], its.toArray.size, _, _, fun i => (bs[i]?).getD false, rfl, Walks.list (A := X.A.in1) (I.ok.hd hc) _ p (Nat.ne_of_lt hlt) its.toArray,
    ⟨⟨_, Heap.get?_push_size _ rfl, rfl, rfl⟩, hl.push _⟩, fun i v s' Q' E' hP hQ => ?_, fun h' tk hk => ?_⟩
  · obtain ⟨b, e, rfl⟩ := hb.get i v (by simpa using hP)
    simp only [e, Option.getD_some] at hQ
    exact wpAny_truthy_bool hQ
  · have e : ((List.range its.toArray.size).any fun i => (bs[i]?).getD false) = bs.any id := by
      rw [List.size_toArray, hb.length]; exact LSm.range_any bs
    rw [e]
    exact ⟨.bl _, H, I.kept (LSm.kept_iter hk), rfl, q⟩
theorem call_sum (hc : X.calm = true) : CallR X (.builtin "sum") (fun xs H Q => ∃ p, ∃ ns : List Int, xs = [.ref p] ∧ SqL X.K H p (ns.map V.int) ∧ Q (.int ns.sum) H) := by
  intro pins s σ H xs us Q I r h
  obtain ⟨p, ns, rfl, hq, q⟩ := h
  obtain ⟨u, rfl, ru⟩ := vals1 r
  cases ru
  obtain ⟨its, rv, pl, hz⟩ := I.list hq
  have hi : IntsAre its ns := intsAre_of rv
  obtain ⟨xs, hx⟩ := hi.allInts.items
  have hl' : s.heap.IsList p (intItems xs) := hx ▸ pl.isList
  refine sum_intListG (I.ok.hd hc) hl' fun h' tk t' hk => ?_
  have e1 : ns = xs.toList.map (·.1) := by
    rw [← nums_intItems, ← hx]
    exact (show numsOf its.toArray.toList = ns from hi.numsOf).symm
  have e2 : preSum (numAt xs) xs.size = ns.sum := by
    rw [preSum_eq, List.take_of_length_le (by simp), e1]
  rw [e2]
  exact ⟨.int _, H, I.kept hk, ⟨_, rfl⟩, q⟩

/-- x in a list of data -/
def rInD (K : PySem.W.Frag) (neg : Bool) : R2 := fun x y H Q => ∃ d ds, Dp K H x d ∧ Dp K H y (.list ds) ∧ d.canLay0 = true ∧ PyData.canLayAll0 ds = true ∧ d.depth ≤ 64 ∧
  Q (.bl (if neg then !(ds.any fun e => PyData.eqv e d) else ds.any fun e => PyData.eqv e d)) H
theorem op_in_dat (hu : X.A.units + 66 < cLine) : OpR X (compareOp .In) (rInD X.K false) := by
  intro pins s σ H x y v u Q I rx ry h
  obtain ⟨d, ds, hd, hds, c1, c2, dp, q⟩ := h
  obtain ⟨as, r1⟩ := Dp.reads I d x v hd rx
  obtain ⟨bs, r2⟩ := Dp.reads I (.list ds) y u hds ry
  refine SeqAt.in_list_reads r2 r1 c2 c1 ?_ ⟨.bl _, H, I, rfl, q⟩
  have h2 : min (PyData.depthAll ds) d.depth ≤ d.depth := Nat.min_le_right _ _
  omega
theorem op_notIn_dat (hu : X.A.units + 66 < cLine) : OpR X (compareOp .NotIn) (rInD X.K true) := by
  intro pins s σ H x y v u Q I rx ry h
  obtain ⟨d, ds, hd, hds, c1, c2, dp, q⟩ := h
  obtain ⟨as, r1⟩ := Dp.reads I d x v hd rx
  obtain ⟨bs, r2⟩ := Dp.reads I (.list ds) y u hds ry
  refine SeqAt.notIn_list_reads r2 r1 c2 c1 ?_ ⟨.bl _, H, I, rfl, q⟩
  have h2 : min (PyData.depthAll ds) d.depth ≤ d.depth := Nat.min_le_right _ _
  omega
end
end L2
end
section
/-! More rules of my own: the item of a list at an op=, min of a list, walks over enumerate and zip, lists of numbers as data. -/
set_option Elab.async false
set_option linter.all false
set_option maxRecDepth 100000
namespace L2
open PySem PySem.Spec PyProof.Rows
section
variable {X : Cx}
theorem get_list : PGet X (rIxL X.K) := by
  intro pins s σ H o i ov iv Q I ro ri h
  obtain ⟨p, xs, k, z, rfl, rfl, hq, he, q⟩ := h
  cases ro
  obtain ⟨t, rfl⟩ := ri
  obtain ⟨its, r, pl, hz⟩ := I.list hq
  obtain ⟨j, h1, h2, h3, h4, h5⟩ := atI_get he
  obtain ⟨w, ew, rw'⟩ := r.get h2
  have hl := r.length
  have hn := line63
  have fin : EP X pins σ Q w s := ⟨z, H, I, rw', q⟩
  by_cases h0 : 0 ≤ k
  · have hj : k.toNat = j := by
      rw [seqIndex_of h0 h5] at h1
      exact Option.some.inj h1
    exact wpAny_getItem_list pl.isList h0 (by omega) (by rw [hj]; simpa using ew) fin
  · have hj : (k + (its.toArray.size : Int)).toNat = j := by
      rw [seqIndex_neg (by omega) h4] at h1
      rw [List.size_toArray, ← hl]
      exact Option.some.inj h1
    exact wpAny_getItem_list_neg pl.isList (by omega) (by rw [List.size_toArray] <;> omega) (by omega) (by rw [hj]; simpa using ew) fin
/-- min of a list of ints that is not empty -/
theorem call_minL (hc : X.calm = true) : CallR X (.builtin "min") (fun xs H Q => ∃ p, ∃ ns : List Int, xs = [.ref p] ∧ SqL X.K H p (ns.map V.int) ∧ 0 < ns.length ∧ ∀ M, M ∈ ns → (∀ a, a ∈ ns → M ≤ a) → Q (.int M) H) := by
  intro pins s σ H xs us Q I r h
  obtain ⟨p, ns, rfl, hq, hne, q⟩ := h
  obtain ⟨u, rfl, ru⟩ := vals1 r
  cases ru
  obtain ⟨its, rv, pl, hz⟩ := I.list hq
  have hi : IntsAre its ns := intsAre_of rv
  obtain ⟨xs, hx⟩ := hi.allInts.items
  have hl' : s.heap.IsList p (intItems xs) := hx ▸ pl.isList
  have hns : ns = xs.toList.map (·.1) := by
    rw [← nums_intItems, ← hx]
    exact (show numsOf its.toArray.toList = ns from hi.numsOf).symm
  have hsz : 0 < xs.size := by
    have h3 := hne
    rw [hns, List.length_map, Array.length_toList] at h3
    exact h3
  refine min_intList (I.ok.hd hc) hl' hsz fun v h' tk hv hk => ?_
  obtain ⟨t, rfl⟩ := intItems_at hv
  obtain ⟨h1, h2⟩ := argBest_lt (numAt xs) (xs.size - 1)
  refine ⟨.int _, H, I.kept hk, ⟨_, rfl⟩, q _ ?_ fun a ha => ?_⟩
  · rw [hns, numAt_eq]
    exact getD_mem (by rw [List.length_map, Array.length_toList]; omega)
  · rw [hns] at ha
    obtain ⟨j, hj, rfl⟩ := mem_getD ha
    rw [List.length_map, Array.length_toList] at hj
    rw [← numAt_eq]
    exact h2 j (by omega)
end
/-! within a comprehension the block's own K is to be named -/
section
variable {X : Cx} {e : Expr} {ta : TE} {f : Str} {pos : Pos}
theorem pe_fldK (K : PySem.W.Frag) (he : PE X e ta) (hb : attributeBase e f X.env (eval e X.env) = eval e X.env) (hK : X.K = K := by rfl) : PE X (.Attribute e f pos) (tFld K ta f) := by
  subst hK
  exact pe_fld he hb
theorem call_lenK (K : PySem.W.Frag) (hK : X.K = K := by rfl) : CallR X (.builtin "len") (fun xs H Q => ∃ p ys, xs = [.ref p] ∧ (SqL K H p ys ∨ SqT K H p ys) ∧ Q (.int ys.length) H) := by
  subst hK
  exact call_len_seq
theorem op_eqDK (K : PySem.W.Frag) (hu : X.A.units + 64 < cLine) (hK : X.K = K := by rfl) : OpR X (compareOp .Eq) (rEqD K) := by
  subst hK
  exact op_eqD hu
end
/-- over enumerate(list), a list that the body leaves as it is -/
theorem for_enum {K : PySem.W.Frag} {a : Addr} {xs : List V} {g : TG} {tb : TS} {D : Ends} {σ : L2.St} {H : Hp} (Pv : Nat → L2.St → Hp → Prop) (h0 : Pv 0 σ H) (hl : ∀ i σ H, i ≤ xs.length → Pv i σ H → SqL K H a xs)
    (hs : ∀ i x σ H T, xs[i]? = some x → Pv i σ H → H T = none → g (.ref T) σ (upd H T (.tup [.int (i : Nat), x])) fun σ2 H2 => tb { D with nx := Pv (i + 1), ct := Pv (i + 1), bk := D.nx } σ2 H2) (hd : ∀ σ H, Pv xs.length σ H → D.nx σ H) :
    ∃ W : Nat → Nat → L2.St → Hp → Prop, (∃ m, W 0 m σ H) ∧ ∀ i m σ H, W i m σ H →
      ((Ite K a).stop i H ∧ D.nx σ H) ∨ ((Ite K a).go i H ∧ ∃ N : L2.St → Hp → Prop, (∀ σ' H', N σ' H' → ∃ m', m' < m ∧ W (i + 1) m' σ' H') ∧ ∀ x H', (Ite K a).yld i H x H' → g x σ H' fun σ2 H2 => tb { D with nx := N, ct := N, bk := D.nx } σ2 H2) := by
  refine ⟨fun i m σ H => m = xs.length - i ∧ i ≤ xs.length ∧ Pv i σ H, ⟨xs.length, by simp, Nat.zero_le _, h0⟩, ?_⟩
  rintro i m σ H ⟨rfl, hi, p⟩
  have q := hl i σ H hi p
  by_cases hlt : i < xs.length
  · refine .inr ⟨⟨xs, xs[i], q, by simp [hlt]⟩, Pv (i + 1), fun σ' H' p' => ⟨xs.length - (i + 1), by omega, rfl, hlt, p'⟩, fun v H' y => ?_⟩
    obtain ⟨T, x, rfl, hT, rfl, y⟩ := y
    exact hs i x σ _ T (y xs q) p hT
  · have e : i = xs.length := by omega
    subst e
    exact .inl ⟨⟨xs, q, Nat.le_refl _⟩, hd σ H p⟩
/-- over zip(list, list), lists of one length that the body leaves as they are -/
theorem for_zip {K : PySem.W.Frag} {a b : Addr} {xs ys : List V} {g : TG} {tb : TS} {D : Ends} {σ : L2.St} {H : Hp} (hxy : ys.length = xs.length) (Pv : Nat → L2.St → Hp → Prop) (h0 : Pv 0 σ H) (hl : ∀ i σ H, i ≤ xs.length → Pv i σ H → SqL K H a xs ∧ SqL K H b ys)
    (hs : ∀ i x y σ H T, xs[i]? = some x → ys[i]? = some y → Pv i σ H → H T = none → g (.ref T) σ (upd H T (.tup [x, y])) fun σ2 H2 => tb { D with nx := Pv (i + 1), ct := Pv (i + 1), bk := D.nx } σ2 H2) (hd : ∀ σ H, Pv xs.length σ H → D.nx σ H) :
    ∃ W : Nat → Nat → L2.St → Hp → Prop, (∃ m, W 0 m σ H) ∧ ∀ i m σ H, W i m σ H →
      ((Itz K a b).stop i H ∧ D.nx σ H) ∨ ((Itz K a b).go i H ∧ ∃ N : L2.St → Hp → Prop, (∀ σ' H', N σ' H' → ∃ m', m' < m ∧ W (i + 1) m' σ' H') ∧ ∀ x H', (Itz K a b).yld i H x H' → g x σ H' fun σ2 H2 => tb { D with nx := N, ct := N, bk := D.nx } σ2 H2) := by
  refine ⟨fun i m σ H => m = xs.length - i ∧ i ≤ xs.length ∧ Pv i σ H, ⟨xs.length, by simp, Nat.zero_le _, h0⟩, ?_⟩
  rintro i m σ H ⟨rfl, hi, p⟩
  obtain ⟨q1, q2⟩ := hl i σ H hi p
  by_cases hlt : i < xs.length
  · have hlt2 : i < ys.length := by omega
    refine .inr ⟨⟨xs, ys, xs[i], ys[i], q1, q2, by simp [hlt], by simp [hlt2]⟩, Pv (i + 1), fun σ' H' p' => ⟨xs.length - (i + 1), by omega, rfl, hlt, p'⟩, fun v H' w => ?_⟩
    obtain ⟨T, x, y, rfl, hT, rfl, wx, wy⟩ := w
    exact hs i x y σ _ T (wx xs q1) (wy ys q2) p hT
  · have e : i = xs.length := by omega
    subst e
    exact .inl ⟨⟨xs, ys, q1, q2, .inl (Nat.le_refl _)⟩, hd σ H p⟩
/-! ### lists of numbers, and lists of such, as data -/
def di (l : List Int) : PyData := .list (l.map PyData.int)
def dr (rs : List (List Int)) : PyData := .list (rs.map di)
theorem dpAll_ints {K : PySem.W.Frag} {H : Hp} : ∀ l : List Int, DpAll K H (l.map V.int) (l.map PyData.int)
  | [] => .nil
  | x :: l => .cons (.int x) (dpAll_ints l)
theorem dp_ints {K : PySem.W.Frag} {H : Hp} {a : Addr} {l : List Int} (h : SqL K H a (l.map V.int)) : Dp K H (.ref a) (di l) := .lst h (dpAll_ints l)
theorem di_lay : ∀ l : List Int, PyData.canLayAll0 (l.map PyData.int) = true
  | [] => rfl
  | _ :: l => by
    show (true && PyData.canLayAll0 (l.map PyData.int)) = true
    rw [di_lay l]
    rfl
theorem di_deep : ∀ l : List Int, PyData.depthAll (l.map PyData.int) = 0
  | [] => rfl
  | _ :: l => by
    show max 0 (PyData.depthAll (l.map PyData.int)) = 0
    rw [di_deep l]
    rfl
theorem di_shaped (l : List Int) : SeqAt.shaped (di l) = true := by
  show (PyData.canLayAll0 (l.map PyData.int) && decide (PyData.depthAll (l.map PyData.int) + 1 ≤ 64)) = true
  rw [di_lay, di_deep]
  rfl
theorem dr_lay : ∀ rs : List (List Int), PyData.canLayAll0 (rs.map di) = true
  | [] => rfl
  | r :: rs => by
    show (PyData.canLayAll0 (r.map PyData.int) && PyData.canLayAll0 (rs.map di)) = true
    rw [di_lay, dr_lay rs]
    rfl
theorem dr_deep : ∀ rs : List (List Int), PyData.depthAll (rs.map di) ≤ 1
  | [] => Nat.zero_le _
  | r :: rs => by
    show max (PyData.depthAll (r.map PyData.int) + 1) (PyData.depthAll (rs.map di)) ≤ 1
    rw [di_deep]
    exact Nat.max_le.mpr ⟨Nat.le_refl _, dr_deep rs⟩
theorem dr_shaped (rs : List (List Int)) : SeqAt.shaped (dr rs) = true := by
  show (PyData.canLayAll0 (rs.map di) && decide (PyData.depthAll (rs.map di) + 1 ≤ 64)) = true
  have h := dr_deep rs
  rw [dr_lay, decide_eq_true (by omega)]
  rfl
theorem di_all : ∀ l m : List Int, PyData.eqvAll (l.map PyData.int) (m.map PyData.int) = decide (l = m)
  | [], [] => rfl
  | [], _ :: _ => rfl
  | _ :: _, [] => rfl
  | x :: l, y :: m => by
    show ((x == y) && PyData.eqvAll (l.map PyData.int) (m.map PyData.int)) = _
    rw [di_all l m, Bool.eq_iff_iff, Bool.and_eq_true, beq_iff_eq, decide_eq_true_eq, decide_eq_true_eq, List.cons.injEq]
theorem di_eqv (l m : List Int) : PyData.eqv (di l) (di m) = decide (l = m) := di_all l m
theorem di_nil (l : List Int) : PyData.eqv (di l) (di []) = l.isEmpty := by cases l <;> rfl
theorem dr_nil (rs : List (List Int)) : PyData.eqv (dr rs) (di []) = rs.isEmpty := by cases rs <;> rfl
end L2
end
section
/-! What is handed in, as a row of the specification's own calls; what is due, call by call. -/
namespace SR
open Si74

def top32 : Nat := 4294967295

/-- a call's numbers as they stand in the list -/
def enc : Call → List Int
  | .begins l => 0 :: (l.length : Int) :: Si74.ints l
  | .street n => [1, (n : Int)]
  | .apart i j => [2, (i : Int), (j : Int)]
  | .together i j => [3, (i : Int), (j : Int)]
  | .check l => 4 :: (l.length : Int) :: Si74.ints l
  | .best => [5]
  | .needs k a b => [6, (k : Int), (a : Int), (b : Int)]
  | .plain => [7]

/-- within the document's bounds -/
def Good : Call → Prop
  | .begins l => l.length ≤ 4 ∧ ∀ n ∈ l, n ≤ top32
  | .street n => n ≤ top32
  | .apart i j => i ≤ top32 ∧ j ≤ top32
  | .together i j => i ≤ top32 ∧ j ≤ top32
  | .check l => l.length ≤ 8 ∧ ∀ n ∈ l, n ≤ top32
  | .best => True
  | .needs k a b => k ≤ top32 ∧ a ≤ top32 ∧ b ≤ top32
  | .plain => True

/-- what is answered to one call -/
def said (y : Ans) : List Int := y.v :: y.l
/-- all answers of a row of calls, from a state -/
def run : Service → List Call → List Int
  | _, [] => []
  | t, q :: r => (((said (step t q).2).length : Nat) : Int) :: (said (step t q).2 ++ run (step t q).1 r)

theorem ints_toNat : ∀ (l : List Int), (∀ x ∈ l, 0 ≤ x) → Si74.ints (l.map Int.toNat) = l
  | [], _ => rfl
  | x :: l, h => by
    have h1 : ((x.toNat : Nat) : Int) = x := Int.toNat_of_nonneg (h x (List.mem_cons_self))
    have h2 := ints_toNat l (fun y hy => h y (List.mem_cons_of_mem _ hy))
    show ((x.toNat : Nat) : Int) :: Si74.ints (l.map Int.toNat) = x :: l
    rw [h1, h2]

theorem nat32 {z : Int} (h : Si74Neutral.natural z 32 = true) : 0 ≤ z ∧ z.toNat ≤ top32 := by
  unfold Si74Neutral.natural at h
  rw [Bool.and_eq_true, decide_eq_true_eq, decide_eq_true_eq] at h
  have : (2 : Int) ^ 32 = 4294967296 := by decide
  rw [this] at h
  unfold top32
  omega

theorem shape_inv {p : Int} {n k : Nat} (h : PySi74.shape p = some (n, k)) :
    (p = 0 ∧ n = 0 ∧ k = 1) ∨ (p = 1 ∧ n = 1 ∧ k = 0) ∨ (p = 2 ∧ n = 2 ∧ k = 0) ∨ (p = 3 ∧ n = 2 ∧ k = 0) ∨ (p = 4 ∧ n = 0 ∧ k = 1) ∨
    (p = 5 ∧ n = 0 ∧ k = 0) ∨ (p = 6 ∧ n = 3 ∧ k = 0) ∨ (p = 7 ∧ n = 0 ∧ k = 0) := by
  unfold PySi74.shape at h
  repeat' split at h
  all_goals first
    | (cases h; done)
    | (have h' := Prod.mk.inj (Option.some.inj h); obtain ⟨h1, h2⟩ := h'; subst h1 h2; simp_all)

/-- one call of the list -/
theorem one {c : List (List Int)} (ok : PyFlat.okCall PySi74.shape c) (as : Si74Neutral.asked1 (PySi74.whole c) = true) :
    ∃ q, PyFlat.put1 c = enc q ∧ Good q ∧ ∀ s, Si74Neutral.step s (PySi74.whole c) = ((step s q).1, said (step s q).2) := by
  obtain ⟨p, a, xs, rfl, hs⟩ := ok
  unfold Si74Neutral.asked1 at as
  rw [Bool.and_eq_true, Bool.and_eq_true] at as
  obtain ⟨_, as1, as2⟩ := as
  have nn : ∀ z ∈ (PySi74.whole ((p :: a) :: xs)).headD [], 0 ≤ z ∧ z.toNat ≤ top32 := fun z hz => nat32 (List.all_eq_true.mp as1 z hz)
  have fin : ∀ q, Si74Neutral.callOf ((PySi74.whole ((p :: a) :: xs)).headD []) = some q → ∀ s, Si74Neutral.step s (PySi74.whole ((p :: a) :: xs)) = ((step s q).1, said (step s q).2) := by
    intro q hq s
    unfold Si74Neutral.step
    rw [hq]
    rfl
  rcases shape_inv hs with ⟨rfl, h1, h2⟩ | ⟨rfl, h1, h2⟩ | ⟨rfl, h1, h2⟩ | ⟨rfl, h1, h2⟩ | ⟨rfl, h1, h2⟩ | ⟨rfl, h1, h2⟩ | ⟨rfl, h1, h2⟩ | ⟨rfl, h1, h2⟩
  · -- begins
    match a, h1, xs, h2 with
    | [], _, [r], _ =>
      have nr : ∀ z ∈ r, 0 ≤ z ∧ z.toNat ≤ top32 := fun z hz => nn z (List.mem_cons_of_mem _ hz)
      have e : Si74Neutral.callOf (0 :: r) = if (r.map Int.toNat).length ≤ 4 then some (.begins (r.map Int.toNat)) else none := rfl
      have as3 : (Si74Neutral.callOf (0 :: r)).isSome = true := as2
      by_cases hl : (r.map Int.toNat).length ≤ 4
      · rw [if_pos hl] at e
        refine ⟨.begins (r.map Int.toNat), ?_, ⟨hl, fun n hn => ?_⟩, fin _ e⟩
        · show [0] ++ (((r.length : Int) :: r) ++ []) = 0 :: ((r.map Int.toNat).length : Int) :: Si74.ints (r.map Int.toNat)
          rw [ints_toNat r (fun x hx => (nr x hx).1), List.length_map, List.append_nil]
          rfl
        · obtain ⟨z, hz, rfl⟩ := List.mem_map.mp hn
          exact (nr z hz).2
      · rw [e, if_neg hl] at as3
        cases as3
  · match a, h1, xs, h2 with
    | [x], _, [], _ =>
      have hx := nn x (by show x ∈ [1, x]; simp)
      refine ⟨.street x.toNat, ?_, hx.2, fin _ rfl⟩
      show [1, x] = [1, ((x.toNat : Nat) : Int)]
      rw [Int.toNat_of_nonneg hx.1]
  · match a, h1, xs, h2 with
    | [x, y], _, [], _ =>
      have hx := nn x (by show x ∈ [2, x, y]; simp)
      have hy := nn y (by show y ∈ [2, x, y]; simp)
      refine ⟨.apart x.toNat y.toNat, ?_, ⟨hx.2, hy.2⟩, fin _ rfl⟩
      show [2, x, y] = [2, ((x.toNat : Nat) : Int), ((y.toNat : Nat) : Int)]
      rw [Int.toNat_of_nonneg hx.1, Int.toNat_of_nonneg hy.1]
  · match a, h1, xs, h2 with
    | [x, y], _, [], _ =>
      have hx := nn x (by show x ∈ [3, x, y]; simp)
      have hy := nn y (by show y ∈ [3, x, y]; simp)
      refine ⟨.together x.toNat y.toNat, ?_, ⟨hx.2, hy.2⟩, fin _ rfl⟩
      show [3, x, y] = [3, ((x.toNat : Nat) : Int), ((y.toNat : Nat) : Int)]
      rw [Int.toNat_of_nonneg hx.1, Int.toNat_of_nonneg hy.1]
  · match a, h1, xs, h2 with
    | [], _, [r], _ =>
      have nr : ∀ z ∈ r, 0 ≤ z ∧ z.toNat ≤ top32 := fun z hz => nn z (List.mem_cons_of_mem _ hz)
      have e : Si74Neutral.callOf (4 :: r) = if (r.map Int.toNat).length ≤ 8 then some (.check (r.map Int.toNat)) else none := rfl
      have as3 : (Si74Neutral.callOf (4 :: r)).isSome = true := as2
      by_cases hl : (r.map Int.toNat).length ≤ 8
      · rw [if_pos hl] at e
        refine ⟨.check (r.map Int.toNat), ?_, ⟨hl, fun n hn => ?_⟩, fin _ e⟩
        · show [4] ++ (((r.length : Int) :: r) ++ []) = 4 :: ((r.map Int.toNat).length : Int) :: Si74.ints (r.map Int.toNat)
          rw [ints_toNat r (fun x hx => (nr x hx).1), List.length_map, List.append_nil]
          rfl
        · obtain ⟨z, hz, rfl⟩ := List.mem_map.mp hn
          exact (nr z hz).2
      · rw [e, if_neg hl] at as3
        cases as3
  · match a, h1, xs, h2 with
    | [], _, [], _ => exact ⟨.best, rfl, trivial, fin _ rfl⟩
  · match a, h1, xs, h2 with
    | [x, y, z], _, [], _ =>
      have hx := nn x (by show x ∈ [6, x, y, z]; simp)
      have hy := nn y (by show y ∈ [6, x, y, z]; simp)
      have hz := nn z (by show z ∈ [6, x, y, z]; simp)
      refine ⟨.needs x.toNat y.toNat z.toNat, ?_, ⟨hx.2, hy.2, hz.2⟩, fin _ rfl⟩
      show [6, x, y, z] = [6, ((x.toNat : Nat) : Int), ((y.toNat : Nat) : Int), ((z.toNat : Nat) : Int)]
      rw [Int.toNat_of_nonneg hx.1, Int.toNat_of_nonneg hy.1, Int.toNat_of_nonneg hz.1]
  · match a, h1, xs, h2 with
    | [], _, [], _ => exact ⟨.plain, rfl, trivial, fin _ rfl⟩

theorem all : ∀ (cs : List (List (List Int))), (∀ c ∈ cs, PyFlat.okCall PySi74.shape c) → (∀ c ∈ cs, Si74Neutral.asked1 (PySi74.whole c) = true) →
    ∃ qs : List Call, PyFlat.put cs = qs.flatMap enc ∧ (∀ q ∈ qs, Good q) ∧ qs.length = cs.length ∧
      ∀ s, PyFlat.told (PyFlat.played Si74Neutral.step s (cs.map PySi74.whole)) = run s qs
  | [], _, _ => ⟨[], rfl, by simp, rfl, fun _ => rfl⟩
  | c :: cs, h1, h2 => by
    obtain ⟨q, e1, g, e2⟩ := one (h1 c List.mem_cons_self) (h2 c List.mem_cons_self)
    obtain ⟨qs, f1, f2, f3, f4⟩ := all cs (fun d hd => h1 d (List.mem_cons_of_mem _ hd)) (fun d hd => h2 d (List.mem_cons_of_mem _ hd))
    refine ⟨q :: qs, ?_, ?_, ?_, fun s => ?_⟩
    · show PyFlat.put1 c ++ PyFlat.put cs = (q :: qs).flatMap enc
      rw [e1, f1, List.flatMap_cons]
    · intro x hx
      rcases List.mem_cons.mp hx with rfl | hx
      · exact g
      · exact f2 x hx
    · rw [List.length_cons, List.length_cons, f3]
    · show PyFlat.told ((Si74Neutral.step s (PySi74.whole c)).2 :: PyFlat.played Si74Neutral.step (Si74Neutral.step s (PySi74.whole c)).1 (cs.map PySi74.whole)) = _
      rw [e2 s]
      show ((said (step s q).2).length : Int) :: said (step s q).2 ++ PyFlat.told (PyFlat.played Si74Neutral.step (step s q).1 (cs.map PySi74.whole)) = _
      rw [f4]
      rfl

/-- what is handed in, and what is due -/
theorem asked_run {ns : List Int} (h : PySi74.answers_asked ns = true) :
    ∃ qs : List Call, ns = qs.flatMap enc ∧ (∀ q ∈ qs, Good q) ∧ qs.length ≤ 60 ∧ PySi74.answers ns = run init qs := by
  unfold PySi74.answers_asked at h
  cases e : PyFlat.calls PySi74.shape ns.length ns with
  | none =>
    rw [e] at h
    cases h
  | some raw =>
    rw [e] at h
    dsimp only at h
    simp only [Bool.and_eq_true] at h
    obtain ⟨⟨⟨⟨_, h1⟩, _⟩, h2⟩, _⟩ := h
    obtain ⟨p1, p2⟩ := PyFlat.put_calls _ _ _ e
    unfold Si74Neutral.asked at h2
    rw [Bool.and_eq_true] at h2
    have as : ∀ c ∈ raw, Si74Neutral.asked1 (PySi74.whole c) = true := fun c hc => List.all_eq_true.mp h2.1 _ (List.mem_map.mpr ⟨c, hc, rfl⟩)
    obtain ⟨qs, f1, f2, f3, f4⟩ := all raw p2 as
    refine ⟨qs, p1.trans f1, f2, ?_, ?_⟩
    · rw [f3]
      exact of_decide_eq_true h1
    · unfold PySi74.answers PySi74.calls
      rw [e]
      exact f4 _
end SR
end
section
/-! What holds of every state of the specification; rows of plans grown at their end; shares and bounds. -/
namespace SR
open Si74

structure Ok (t : Service) : Prop where
  sp1 : 1 ≤ t.speeds.length
  sp3 : t.speeds.length ≤ 3
  sp : ∀ n ∈ t.speeds, 1 ≤ n ∧ n ≤ 1000
  st6 : t.streets.length ≤ 6
  st : ∀ n ∈ t.streets, 1 ≤ n ∧ n ≤ 1000
  ap : ∀ x ∈ t.apart, x.1 < t.streets.length ∧ x.2 < t.streets.length
  tg : ∀ x ∈ t.together, x.1 < t.streets.length ∧ x.2 < t.streets.length

theorem ok_init : Ok init := by
  refine ⟨by decide, by decide, ?_, by decide, ?_, ?_, ?_⟩
  · intro n hn
    have : n = 1 := by simpa [init] using hn
    omega
  all_goals (intro x hx; simp [init] at hx)

theorem two_zero {t : Service} {p : List (Nat × Nat)} {i j : Nat} (h : ¬ t.two p i j < 0) : i < t.streets.length ∧ j < t.streets.length := by
  unfold Service.two at h
  split at h
  · omega
  · omega

theorem ok_step {t : Service} (o : Ok t) (q : Call) : Ok (step t q).1 := by
  cases q with
  | begins l =>
    show Ok (if l.length < 1 ∨ PLOUGHS < l.length ∨ (l.all fun n => decide (1 ≤ n) && decide (n ≤ MOST)) = false then (t, ok (-1)) else (⟨l, [], [], []⟩, ok 0)).1
    split
    · exact o
    · rename_i h
      have h1 : ¬ l.length < 1 := fun z => h (.inl z)
      have h2 : ¬ PLOUGHS < l.length := fun z => h (.inr (.inl z))
      have h3 : (l.all fun n => decide (1 ≤ n) && decide (n ≤ MOST)) = true := by
        cases e : (l.all fun n => decide (1 ≤ n) && decide (n ≤ MOST)) with
        | true => rfl
        | false => exact (h (.inr (.inr e))).elim
      unfold PLOUGHS at h2
      refine ⟨by show 1 ≤ l.length; omega, by show l.length ≤ 3; omega, fun n hn => ?_, by show 0 ≤ 6; omega, fun n hn => (by cases hn), fun n hn => (by cases hn), fun n hn => (by cases hn)⟩
      have := List.all_eq_true.mp h3 n hn
      rw [Bool.and_eq_true, decide_eq_true_eq, decide_eq_true_eq] at this
      exact this
  | street n =>
    show Ok (if n < 1 ∨ MOST < n then (t, ok (-1)) else if STREETS ≤ t.streets.length then (t, ok (-5)) else ({ t with streets := t.streets ++ [n] }, ok ((t.streets.length : Nat) : Int))).1
    split
    · exact o
    · split
      · exact o
      · rename_i h h'
        have h1 : ¬ STREETS ≤ t.streets.length := h'
        unfold STREETS at h1
        unfold MOST at h
        have e : (t.streets ++ [n]).length = t.streets.length + 1 := by rw [List.length_append]; rfl
        refine ⟨o.sp1, o.sp3, o.sp, by show (t.streets ++ [n]).length ≤ 6; omega, fun m hm => ?_, fun x hx => ?_, fun x hx => ?_⟩
        · rcases List.mem_append.mp hm with hm | hm
          · exact o.st m hm
          · have : m = n := by simpa using hm
            omega
        · have := o.ap x hx
          show x.1 < (t.streets ++ [n]).length ∧ x.2 < (t.streets ++ [n]).length
          omega
        · have := o.tg x hx
          show x.1 < (t.streets ++ [n]).length ∧ x.2 < (t.streets ++ [n]).length
          omega
  | apart i j =>
    show Ok (if t.two t.apart i j < 0 then (t, ok (t.two t.apart i j)) else ({ t with apart := t.apart ++ [(i, j)] }, ok 0)).1
    split
    · exact o
    · rename_i h
      refine ⟨o.sp1, o.sp3, o.sp, o.st6, o.st, fun x hx => ?_, o.tg⟩
      rcases List.mem_append.mp hx with hx | hx
      · exact o.ap x hx
      · have : x = (i, j) := by simpa using hx
        subst this
        exact two_zero h
  | together i j =>
    show Ok (if t.two t.together i j < 0 then (t, ok (t.two t.together i j)) else ({ t with together := t.together ++ [(i, j)] }, ok 0)).1
    split
    · exact o
    · rename_i h
      refine ⟨o.sp1, o.sp3, o.sp, o.st6, o.st, o.ap, fun x hx => ?_⟩
      rcases List.mem_append.mp hx with hx | hx
      · exact o.tg x hx
      · have : x = (i, j) := by simpa using hx
        subst this
        exact two_zero h
  | check l =>
    show Ok (if t.told l = false then (t, ok (-1)) else (t, _)).1
    split <;> exact o
  | best => exact o
  | needs k a b =>
    show Ok (if t.speeds.length ≤ k then (t, ok (-2)) else if a < 1 ∨ MOST < a ∨ b < 1 ∨ MOST < b then (t, ok (-1)) else (t, _)).1
    split
    · exact o
    · split <;> exact o
  | plain => exact o

/-- how many pairs are told grows by one at most -/
theorem len_step (t : Service) (q : Call) : (step t q).1.apart.length ≤ t.apart.length + 1 ∧ (step t q).1.together.length ≤ t.together.length + 1 := by
  cases q <;> simp only [step] <;> repeat' split
  all_goals first
    | exact ⟨Nat.le_succ _, Nat.le_succ _⟩
    | exact ⟨Nat.zero_le _, Nat.zero_le _⟩
    | (simp only [List.length_append, List.length_cons, List.length_nil]; omega)

/-! ### rows -/
theorem flatMap_map' {α β γ : Type} (f : β → List γ) (g : α → β) : ∀ l : List α, (l.map g).flatMap f = l.flatMap fun a => f (g a)
  | [] => rfl
  | a :: l => by rw [List.map_cons, List.flatMap_cons, List.flatMap_cons, flatMap_map' f g l]
theorem map_flatMap' {α β γ : Type} (f : β → γ) (g : α → List β) : ∀ l : List α, (l.flatMap g).map f = l.flatMap fun a => (g a).map f
  | [] => rfl
  | a :: l => by rw [List.flatMap_cons, List.map_append, map_flatMap' f g l, List.flatMap_cons]
theorem flatMap_flatMap' {α β γ : Type} (f : β → List γ) (g : α → List β) : ∀ l : List α, (l.flatMap g).flatMap f = l.flatMap fun a => (g a).flatMap f
  | [] => rfl
  | a :: l => by rw [List.flatMap_cons, List.flatMap_append, flatMap_flatMap' f g l, List.flatMap_cons]
/-- all rows of one more number, grown at the end -/
theorem rows_snoc (k : Nat) : ∀ n, rows k (n + 1) = (rows k n).flatMap fun l => (List.range k).map fun t => l ++ [t]
  | 0 => by
    show ((List.range k).flatMap fun t => ([[]] : List (List Nat)).map fun l => t :: l) = ([[]] : List (List Nat)).flatMap fun l => (List.range k).map fun t => l ++ [t]
    rw [List.flatMap_cons, List.flatMap_nil, List.append_nil]
    show ((List.range k).flatMap fun t => [[t]]) = (List.range k).map fun t => [t]
    induction List.range k with
    | nil => rfl
    | cons a l ih => rw [List.flatMap_cons, List.map_cons, ih]; rfl
  | n + 1 => by
    show ((List.range k).flatMap fun t => (rows k (n + 1)).map fun l => t :: l) = ((List.range k).flatMap fun t => (rows k n).map fun l => t :: l).flatMap fun l => (List.range k).map fun t => l ++ [t]
    rw [flatMap_flatMap']
    refine congrArg (fun f => (List.range k).flatMap f) (funext fun t => ?_)
    rw [rows_snoc k n, map_flatMap', flatMap_map']
    refine congrArg (fun f => (rows k n).flatMap f) (funext fun l => ?_)
    rw [List.map_map]
    rfl
theorem rows_len {k : Nat} : ∀ {n : Nat} {l : List Nat}, l ∈ rows k n → l.length = n
  | 0, l, h => by
    have : l = [] := by simpa [rows] using h
    rw [this]; rfl
  | n + 1, l, h => by
    obtain ⟨t, _, h⟩ := List.mem_flatMap.mp (show l ∈ (List.range k).flatMap fun t => (rows k n).map fun l => t :: l from h)
    obtain ⟨m, hm, rfl⟩ := List.mem_map.mp h
    rw [List.length_cons, rows_len hm]
theorem rows_lt {k : Nat} : ∀ {n : Nat} {l : List Nat}, l ∈ rows k n → ∀ x ∈ l, x < k
  | 0, l, h => by
    have : l = [] := by simpa [rows] using h
    rw [this]; intro x hx; cases hx
  | n + 1, l, h => by
    obtain ⟨t, ht, h⟩ := List.mem_flatMap.mp (show l ∈ (List.range k).flatMap fun t => (rows k n).map fun l => t :: l from h)
    obtain ⟨m, hm, rfl⟩ := List.mem_map.mp h
    intro x hx
    rcases List.mem_cons.mp hx with rfl | hx
    · exact List.mem_range.mp ht
    · exact rows_lt hm x hx
theorem rows_count (k : Nat) : ∀ n, (rows k n).length = k ^ n
  | 0 => rfl
  | n + 1 => by
    have : ∀ l : List Nat, (l.flatMap fun t => (rows k n).map fun l => t :: l).length = l.length * k ^ n := by
      intro l
      induction l with
      | nil => simp
      | cons a l ih => rw [List.flatMap_cons, List.length_append, List.length_map, ih, rows_count k n, List.length_cons, Nat.add_mul, Nat.one_mul, Nat.add_comm]
    show ((List.range k).flatMap fun t => (rows k n).map fun l => t :: l).length = _
    rw [this, List.length_range, Nat.pow_succ, Nat.mul_comm]
/-- every row of a state is told -/
theorem told_rows {t : Service} {l : List Nat} (h : l ∈ rows t.speeds.length t.streets.length) : t.told l = true := by
  unfold Service.told
  rw [rows_len h, Bool.and_eq_true]
  exact ⟨beq_self_eq_true _, List.all_eq_true.mpr fun x hx => decide_eq_true (rows_lt h x hx)⟩
theorem right_rows {t : Service} {l : List Nat} (h : l ∈ rows t.speeds.length t.streets.length) : t.right l = ((t.near l).isNone && (t.far l).isNone) := by
  unfold Service.right
  rw [told_rows h, Bool.true_and]

/-! ### shares -/
theorem share_nil (t : Service) (k : Nat) : t.share [] k = 0 := rfl
theorem getD_app_left {l r : List Nat} {i : Nat} (h : i < l.length) : (l ++ r).getD i 0 = l.getD i 0 := by
  rw [List.getD_eq_getElem?_getD, List.getD_eq_getElem?_getD, List.getElem?_append_left h]
theorem getD_app_at (l : List Nat) (x : Nat) : (l ++ [x]).getD l.length 0 = x := by
  rw [List.getD_eq_getElem?_getD, List.getElem?_append_right (Nat.le_refl _), Nat.sub_self]
  rfl
/-- one street more -/
theorem share_snoc (t : Service) (l : List Nat) (x k : Nat) : t.share (l ++ [x]) k = t.share l k + if x = k then t.streets.getD l.length 0 else 0 := by
  unfold Service.share
  rw [List.length_append, show ([x] : List Nat).length = 1 from rfl, List.range_succ, List.map_append, List.sum_append]
  have e1 : ((List.range l.length).map fun i => if (l ++ [x]).getD i 0 = k then t.streets.getD i 0 else 0) = (List.range l.length).map fun i => if l.getD i 0 = k then t.streets.getD i 0 else 0 := by
    refine List.map_congr_left fun i hi => ?_
    rw [getD_app_left (List.mem_range.mp hi)]
  rw [e1]
  show _ + ([if (l ++ [x]).getD l.length 0 = k then t.streets.getD l.length 0 else 0] : List Nat).sum = _
  rw [getD_app_at]
  simp
theorem street_le {t : Service} (o : Ok t) (i : Nat) : t.streets.getD i 0 ≤ 1000 := by
  rw [List.getD_eq_getElem?_getD]
  cases e : t.streets[i]? with
  | none => exact Nat.zero_le _
  | some n => exact (o.st n (List.mem_of_getElem? e)).2
theorem share_le {t : Service} (o : Ok t) (l : List Nat) (k : Nat) : t.share l k ≤ 1000 * l.length := by
  unfold Service.share
  have : ∀ m : List Nat, (m.map fun i => if l.getD i 0 = k then t.streets.getD i 0 else 0).sum ≤ 1000 * m.length := by
    intro m
    induction m with
    | nil => simp
    | cons a m ih =>
      rw [List.map_cons, List.sum_cons, List.length_cons, Nat.mul_add]
      have := street_le o a
      split <;> omega
  have h := this (List.range l.length)
  rw [List.length_range] at h
  exact h
theorem speed_in {t : Service} (o : Ok t) {k : Nat} (h : k < t.speeds.length) : 1 ≤ t.speed k ∧ t.speed k ≤ 1000 := by
  unfold Service.speed
  rw [List.getD_eq_getElem?_getD, List.getElem?_eq_getElem h]
  exact o.sp _ (List.getElem_mem h)
end SR
end
section
/-! Fractions: lowest terms, and which is less. -/
namespace SR
open Si74
theorem lowest_of {x : Part} (h : 0 < x.2) : lowest x = (x.1 / Nat.gcd x.1 x.2, x.2 / Nat.gcd x.1 x.2) := by
  unfold lowest
  have g : Nat.gcd x.1 x.2 ≠ 0 := Nat.pos_iff_ne_zero.mp (Nat.gcd_pos_of_pos_right _ h)
  exact if_neg g
theorem lowest_parts {x : Part} (h : 0 < x.2) : (lowest x).1 * Nat.gcd x.1 x.2 = x.1 ∧ (lowest x).2 * Nat.gcd x.1 x.2 = x.2 ∧ 0 < (lowest x).2 := by
  rw [lowest_of h]
  refine ⟨Nat.div_mul_cancel (Nat.gcd_dvd_left _ _), Nat.div_mul_cancel (Nat.gcd_dvd_right _ _), ?_⟩
  exact Nat.div_pos (Nat.le_of_dvd h (Nat.gcd_dvd_right _ _)) (Nat.gcd_pos_of_pos_right _ h)
/-- two fractions of one worth have the same lowest terms -/
theorem lowest_eq {x y : Part} (hx : 0 < x.2) (hy : 0 < y.2) (e : x.1 * y.2 = y.1 * x.2) : lowest x = lowest y := by
  rw [lowest_of hx, lowest_of hy]
  have gx : 0 < Nat.gcd x.1 x.2 := Nat.gcd_pos_of_pos_right _ hx
  have gy : 0 < Nat.gcd y.1 y.2 := Nat.gcd_pos_of_pos_right _ hy
  -- y2 * gcd x = x2 * gcd y
  have k : Nat.gcd x.1 x.2 * y.2 = Nat.gcd y.1 y.2 * x.2 := by
    rw [← Nat.gcd_mul_right, ← Nat.gcd_mul_right, e, Nat.mul_comm x.2 y.2]
  have k1 : Nat.gcd x.1 x.2 * y.1 = Nat.gcd y.1 y.2 * x.1 := by
    rw [← Nat.gcd_mul_right, ← Nat.gcd_mul_right, Nat.mul_comm x.2 y.1, ← e, Nat.mul_comm y.1 x.1, Nat.mul_comm y.2 x.1]
  have d1 : x.1 / Nat.gcd x.1 x.2 = y.1 / Nat.gcd y.1 y.2 := by
    rw [Nat.div_eq_iff_eq_mul_left gx (Nat.gcd_dvd_left _ _), Nat.div_mul_right_comm (Nat.gcd_dvd_left _ _)]
    symm
    rw [Nat.div_eq_iff_eq_mul_left gy (Nat.dvd_trans (Nat.gcd_dvd_left _ _) (Nat.dvd_mul_right _ _))]
    rw [Nat.mul_comm, k1, Nat.mul_comm]
  have d2 : x.2 / Nat.gcd x.1 x.2 = y.2 / Nat.gcd y.1 y.2 := by
    rw [Nat.div_eq_iff_eq_mul_left gx (Nat.gcd_dvd_right _ _), Nat.div_mul_right_comm (Nat.gcd_dvd_right _ _)]
    symm
    rw [Nat.div_eq_iff_eq_mul_left gy (Nat.dvd_trans (Nat.gcd_dvd_right _ _) (Nat.dvd_mul_right _ _))]
    rw [Nat.mul_comm, k, Nat.mul_comm]
  rw [d1, d2]
theorem worth_of_lowest {x y : Part} (hx : 0 < x.2) (hy : 0 < y.2) (e : lowest x = lowest y) : x.1 * y.2 = y.1 * x.2 := by
  obtain ⟨a1, a2, _⟩ := lowest_parts hx
  obtain ⟨b1, b2, _⟩ := lowest_parts hy
  have h1 : x.1 = (lowest y).1 * Nat.gcd x.1 x.2 := by rw [← e]; exact a1.symm
  have h2 : x.2 = (lowest y).2 * Nat.gcd x.1 x.2 := by rw [← e]; exact a2.symm
  generalize Nat.gcd x.1 x.2 = g at h1 h2
  generalize Nat.gcd y.1 y.2 = g' at b1 b2
  rw [h1, h2, ← b1, ← b2]
  generalize (lowest _).1 = p
  generalize (lowest _).2 = q
  rw [Nat.mul_assoc, Nat.mul_assoc, Nat.mul_left_comm g, Nat.mul_left_comm g', Nat.mul_comm g g']
theorem lowest_iff {x y : Part} (hx : 0 < x.2) (hy : 0 < y.2) : lowest x = lowest y ↔ x.1 * y.2 = y.1 * x.2 := ⟨worth_of_lowest hx hy, lowest_eq hx hy⟩
theorem less_iff {x y : Part} : less x y = true ↔ x.1 * y.2 < y.1 * x.2 := by unfold less; exact decide_eq_true_iff
theorem less_lowest {x y : Part} (hx : 0 < x.2) (hy : 0 < y.2) : less (lowest x) (lowest y) = less x y := by
  obtain ⟨a1, a2, a3⟩ := lowest_parts hx
  obtain ⟨b1, b2, b3⟩ := lowest_parts hy
  have gx : 0 < Nat.gcd x.1 x.2 := Nat.gcd_pos_of_pos_right _ hx
  have gy : 0 < Nat.gcd y.1 y.2 := Nat.gcd_pos_of_pos_right _ hy
  rw [Bool.eq_iff_iff, less_iff, less_iff]
  generalize Nat.gcd x.1 x.2 = g at a1 a2 gx
  generalize Nat.gcd y.1 y.2 = g' at b1 b2 gy
  generalize lowest x = p at a1 a2 a3 ⊢
  generalize lowest y = q at b1 b2 b3 ⊢
  rw [← a1, ← a2, ← b1, ← b2]
  have e1 : p.1 * g * (q.2 * g') = (p.1 * q.2) * (g * g') := by rw [Nat.mul_assoc, Nat.mul_assoc, Nat.mul_left_comm g]
  have e2 : q.1 * g' * (p.2 * g) = (q.1 * p.2) * (g * g') := by rw [Nat.mul_assoc, Nat.mul_assoc, Nat.mul_left_comm g', Nat.mul_comm g' g]
  rw [e1, e2]
  exact (Nat.mul_lt_mul_right (Nat.mul_pos gx gy)).symm
theorem lowest_lowest {x : Part} (hx : 0 < x.2) : lowest (lowest x) = lowest x := by
  obtain ⟨a1, a2, a3⟩ := lowest_parts hx
  refine lowest_eq a3 hx ?_
  generalize Nat.gcd x.1 x.2 = g at a1 a2
  generalize lowest x = p at a1 a2 a3 ⊢
  rw [← a1, ← a2, Nat.mul_left_comm]
  exact Nat.mul_comm _ _
/-- when all is clear, below the line -/
theorem clear_pos {t : Service} (o : Ok t) (l : List Nat) : 0 < (t.clear l).2 := by
  unfold Service.clear
  have : ∀ (ks : List Nat) (m : Part), (∀ k ∈ ks, k < t.speeds.length) → 0 < m.2 → 0 < (ks.foldl (fun (m : Part) k => if less m (t.share l k, t.speed k) = true then (t.share l k, t.speed k) else m) m).2 := by
    intro ks
    induction ks with
    | nil => intro m _ h; exact h
    | cons k ks ih =>
      intro m hk hm
      rw [List.foldl_cons]
      refine ih _ (fun j hj => hk j (List.mem_cons_of_mem _ hj)) ?_
      split
      · exact (speed_in o (hk k List.mem_cons_self)).1
      · exact hm
  exact this _ _ (fun k hk => List.mem_range.mp hk) (by decide)
/-- Euclid's step -/
theorem gcd_step (a b : Nat) : Nat.gcd a b = Nat.gcd b (a % b) := by
  rw [Nat.gcd_comm a b, Nat.gcd_rec b a, Nat.gcd_comm]
end SR
end
section
/-! The calls done so far and those to come; how long an answer may be. -/
namespace SR
open Si74
def after (t : Service) (qs : List Call) : Service := qs.foldl (fun t q => (step t q).1) t
theorem after_snoc (t : Service) (qs : List Call) (q : Call) : after t (qs ++ [q]) = (step (after t qs) q).1 := by
  unfold after
  rw [List.foldl_append]
  rfl
theorem run_snoc : ∀ (qs : List Call) (t : Service) (q : Call), run t (qs ++ [q]) = run t qs ++ (((said (step (after t qs) q).2).length : Nat) : Int) :: said (step (after t qs) q).2
  | [], t, q => by
    show (((said (step t q).2).length : Nat) : Int) :: (said (step t q).2 ++ []) = [] ++ (((said (step t q).2).length : Nat) : Int) :: said (step t q).2
    rw [List.append_nil, List.nil_append]
  | p :: qs, t, q => by
    show (((said (step t p).2).length : Nat) : Int) :: (said (step t p).2 ++ run (step t p).1 (qs ++ [q])) = (((said (step t p).2).length : Nat) : Int) :: (said (step t p).2 ++ run (step t p).1 qs) ++ _
    rw [run_snoc qs (step t p).1 q, List.cons_append, List.append_assoc]
    rfl
theorem ok_after : ∀ {t : Service} (_ : Ok t) (qs : List Call), Ok (after t qs)
  | _, o, [] => o
  | _, o, q :: qs => ok_after (ok_step o q) qs
theorem pairs_after : ∀ (qs : List Call) (t : Service), (after t qs).apart.length ≤ t.apart.length + qs.length ∧ (after t qs).together.length ≤ t.together.length + qs.length
  | [], t => ⟨Nat.le_refl _, Nat.le_refl _⟩
  | q :: qs, t => by
    have h := pairs_after qs (step t q).1
    have g := len_step t q
    have e : after t (q :: qs) = after (step t q).1 qs := rfl
    rw [e, List.length_cons]
    omega
theorem enc_pos (q : Call) : 0 < (enc q).length := by cases q <;> exact Nat.succ_pos _
/-- the plan of best is one of all plans -/
theorem best_row {t : Service} {x : Best} (h : t.best = some x) : x.row ∈ t.plans := by
  have : ∀ (ls : List (List Nat)) (r : Option Best), (∀ l ∈ ls, l ∈ t.plans) → (∀ y, r = some y → y.row ∈ t.plans) →
      ∀ y, ls.foldl (fun (r : Option Best) l => let n := lowest (t.clear l)
        match r with
        | none => some ⟨n, 1, l⟩
        | some x => if less n x.clear = true then some ⟨n, 1, l⟩ else if n = x.clear then some ⟨x.clear, x.many + 1, x.row⟩ else some x) r = some y → y.row ∈ t.plans := by
    intro ls
    induction ls with
    | nil => intro r _ hr y hy; exact hr y hy
    | cons l ls ih =>
      intro r hl hr y hy
      rw [List.foldl_cons] at hy
      refine ih _ (fun l' h' => hl l' (List.mem_cons_of_mem _ h')) (fun z hz => ?_) y hy
      have hl0 := hl l List.mem_cons_self
      cases r with
      | none =>
        have := Option.some.inj hz
        rw [← this]
        exact hl0
      | some w =>
        dsimp only at hz
        split at hz
        · rw [← Option.some.inj hz]; exact hl0
        · split at hz
          · rw [← Option.some.inj hz]; exact hr w rfl
          · rw [← Option.some.inj hz]; exact hr w rfl
  exact this t.plans none (fun _ h => h) (fun y hy => by cases hy) x h
theorem plan_rows {t : Service} {l : List Nat} (h : l ∈ t.plans) : l ∈ rows t.speeds.length t.streets.length := (List.mem_filter.mp h).1
theorem plainFrom_len (t : Service) : ∀ (n : Nat) (l : List Nat), (t.plainFrom n l).length = l.length + n
  | 0, _ => rfl
  | n + 1, l => by
    unfold Service.plainFrom
    rw [plainFrom_len t n, List.length_append]
    show l.length + 1 + n = l.length + (n + 1)
    omega
/-- no answer is long -/
theorem said_len {t : Service} (o : Ok t) (q : Call) : (said (step t q).2).length ≤ 10 := by
  have one : ∀ v : Int, (said (ok v)).length = 1 := fun _ => rfl
  have hs := o.sp3
  have ht := o.st6
  cases q with
  | begins l => simp only [step]; split <;> exact Nat.le_of_lt_succ (by show 1 < 11; decide)
  | street n =>
    simp only [step]
    split
    · exact Nat.le_of_lt_succ (by show 1 < 11; decide)
    · split <;> exact Nat.le_of_lt_succ (by show 1 < 11; decide)
  | apart i j => simp only [step]; split <;> exact Nat.le_of_lt_succ (by show 1 < 11; decide)
  | together i j => simp only [step]; split <;> exact Nat.le_of_lt_succ (by show 1 < 11; decide)
  | check l =>
    simp only [step]
    split
    · exact Nat.le_of_lt_succ (by show 1 < 11; decide)
    · dsimp only
      split
      · exact Nat.le_of_lt_succ (by show 3 < 11; decide)
      · split
        · exact Nat.le_of_lt_succ (by show 3 < 11; decide)
        · show (0 :: Si74.ints _).length ≤ 10
          unfold Si74.ints both
          rw [List.length_cons, List.length_map, List.length_append, List.length_map, List.length_range]
          show 2 + _ + 1 ≤ 10
          omega
  | best =>
    simp only [step]
    split
    · exact Nat.le_of_lt_succ (by show 1 < 11; decide)
    · rename_i x hx
      have := rows_len (plan_rows (best_row hx))
      show (0 :: Si74.ints _).length ≤ 10
      unfold Si74.ints both
      rw [List.length_cons, List.length_map, List.length_append]
      show 2 + (x.row.length + 1) + 1 ≤ 10
      omega
  | needs k a b =>
    simp only [step]
    split
    · exact Nat.le_of_lt_succ (by show 1 < 11; decide)
    · split
      · exact Nat.le_of_lt_succ (by show 1 < 11; decide)
      · dsimp only
        split <;> exact Nat.le_of_lt_succ (by show 1 < 11; decide)
  | plain =>
    simp only [step]
    show (_ :: Si74.ints _).length ≤ 10
    have : t.plain.length = t.streets.length := by
      unfold Service.plain
      rw [plainFrom_len]
      show 0 + _ = _
      omega
    unfold Si74.ints both
    rw [List.length_cons, List.length_map, List.length_append, this]
    show 2 + _ + 1 ≤ 10
    omega
theorem run_len : ∀ (qs : List Call) {t : Service} (_ : Ok t), (run t qs).length ≤ 11 * qs.length
  | [], _, _ => Nat.le_refl _
  | q :: qs, t, o => by
    have h := run_len qs (ok_step o q)
    have g := said_len o q
    show ((((said (step t q).2).length : Nat) : Int) :: (said (step t q).2 ++ run (step t q).1 qs)).length ≤ _
    rw [List.length_cons, List.length_append, List.length_cons]
    omega
end SR
end
section
/-! The last four calls, as a program goes through them: shares street by street, the greatest so far, the soonest so far. -/
namespace SR
open Si74
/-! ### shares -/
def shares (t : Service) (l : List Nat) : List Nat := (List.range t.speeds.length).map (t.share l)
theorem shares_len (t : Service) (l : List Nat) : (shares t l).length = t.speeds.length := by
  unfold shares
  rw [List.length_map, List.length_range]
theorem shares_at {t : Service} {l : List Nat} {k : Nat} (h : k < t.speeds.length) : (shares t l)[k]? = some (t.share l k) := by
  unfold shares
  rw [List.getElem?_map, List.getElem?_range h]
  rfl
theorem shares_nil (t : Service) : shares t [] = List.replicate t.speeds.length 0 := by
  refine List.ext_getElem? fun i => ?_
  by_cases h : i < t.speeds.length
  · rw [shares_at h, List.getElem?_replicate, if_pos h]
    rfl
  · rw [List.getElem?_eq_none (by rw [shares_len]; omega), List.getElem?_eq_none (by rw [List.length_replicate]; omega)]
theorem shares_snoc {t : Service} (l : List Nat) (x : Nat) : shares t (l ++ [x]) = (shares t l).set x (t.share l x + t.streets.getD l.length 0) := by
  refine List.ext_getElem? fun i => ?_
  by_cases h : i < t.speeds.length
  · rw [shares_at h, List.getElem?_set, share_snoc]
    by_cases e : x = i
    · subst e
      rw [if_pos rfl, if_pos rfl, if_pos (by rw [shares_len]; exact h)]
    · rw [if_neg e, if_neg e, shares_at h]
      rfl
  · rw [List.getElem?_eq_none (by rw [shares_len]; omega), List.getElem?_eq_none (by rw [List.length_set, shares_len]; omega)]
/-! ### when all is clear -/
def clearTo (t : Service) (l : List Nat) (i : Nat) : Part := (List.range i).foldl (fun (m : Part) k => if less m (t.share l k, t.speed k) = true then (t.share l k, t.speed k) else m) (0, 1)
theorem clearTo_succ (t : Service) (l : List Nat) (i : Nat) : clearTo t l (i + 1) = if less (clearTo t l i) (t.share l i, t.speed i) = true then (t.share l i, t.speed i) else clearTo t l i := by
  unfold clearTo
  rw [List.range_succ, List.foldl_append]
  rfl
theorem clearTo_all (t : Service) (l : List Nat) : clearTo t l t.speeds.length = t.clear l := rfl
theorem clearTo_in {t : Service} (o : Ok t) {l : List Nat} (hl : l.length ≤ 8) : ∀ i, i ≤ t.speeds.length → (clearTo t l i).1 ≤ 8000 ∧ 0 < (clearTo t l i).2 ∧ (clearTo t l i).2 ≤ 1000
  | 0, _ => ⟨Nat.zero_le _, by show 0 < 1; decide, by show 1 ≤ 1000; decide⟩
  | i + 1, h => by
    rw [clearTo_succ]
    split
    · have h1 := share_le o l i
      have h2 := speed_in o (show i < t.speeds.length by omega)
      exact ⟨by show t.share l i ≤ 8000; omega, by show 0 < t.speed i; omega, h2.2⟩
    · exact clearTo_in o hl i (by omega)
/-! ### needs -/
def others (t : Service) (k : Nat) (h : Part) (l : List Nat) (i : Nat) : Bool := (List.range i).all fun j => j == k || !less h (t.share l j, t.speed j)
theorem others_succ (t : Service) (k : Nat) (h : Part) (l : List Nat) (i : Nat) : others t k h l (i + 1) = (others t k h l i && (i == k || !less h (t.share l i, t.speed i))) := by
  unfold others
  rw [List.range_succ, List.all_append, List.all_cons, List.all_nil, Bool.and_true]
theorem others_false {t : Service} {k : Nat} {h : Part} {l : List Nat} : ∀ {i n : Nat}, i ≤ n → others t k h l i = false → others t k h l n = false
  | i, n, hn, e => by
    induction hn with
    | refl => exact e
    | step _ ih => rw [others_succ, ih]; rfl
def lm (s a b : Nat) : Nat := max ((s * b + a - 1) / a) 1
def enough (t : Service) (k : Nat) (h : Part) (ls : List (List Nat)) : List Nat := (ls.filterMap (t.asks k h)).map fun n => max n 1
theorem enough_snoc (t : Service) (k a b : Nat) (ls : List (List Nat)) (l : List Nat) : enough t k (a, b) (ls ++ [l]) = enough t k (a, b) ls ++ if others t k (a, b) l t.speeds.length = true then [lm (t.share l k) a b] else [] := by
  unfold enough
  rw [List.filterMap_append, List.map_append]
  congr 1
  have e : t.asks k (a, b) l = if others t k (a, b) l t.speeds.length = true then some ((t.share l k * b + a - 1) / a) else none := rfl
  by_cases c : others t k (a, b) l t.speeds.length = true
  · rw [if_pos c] at e ⊢
    rw [List.filterMap_cons, e]
    rfl
  · rw [if_neg c] at e ⊢
    rw [List.filterMap_cons, e]
    rfl
theorem enough_len (t : Service) (k : Nat) (h : Part) (ls : List (List Nat)) : (enough t k h ls).length ≤ ls.length := by
  unfold enough
  rw [List.length_map]
  exact List.length_filterMap_le _ _
theorem least_spec : ∀ (l : List Nat), l ≠ [] → ∃ m, least l = some m ∧ m ∈ l ∧ ∀ a ∈ l, m ≤ a
  | [], h => (h rfl).elim
  | [n], _ => ⟨n, rfl, List.mem_cons_self, fun a ha => by
    have : a = n := by simpa using ha
    omega⟩
  | n :: n' :: l, _ => by
    obtain ⟨m, e, h1, h2⟩ := least_spec (n' :: l) (by simp)
    refine ⟨min n m, ?_, ?_, ?_⟩
    · show (match least (n' :: l) with | none => some n | some m => some (min n m)) = _
      rw [e]
    · rcases Nat.le_total n m with h | h
      · rw [Nat.min_eq_left h]; exact List.mem_cons_self
      · rw [Nat.min_eq_right h]; exact List.mem_cons_of_mem _ h1
    · intro a ha
      rcases List.mem_cons.mp ha with rfl | ha
      · exact Nat.min_le_left _ _
      · exact Nat.le_trans (Nat.min_le_right _ _) (h2 a ha)
theorem least_of {l : List Nat} {m : Nat} (h1 : m ∈ l) (h2 : ∀ a ∈ l, m ≤ a) : least l = some m := by
  obtain ⟨m', e, g1, g2⟩ := least_spec l (List.ne_nil_of_mem h1)
  have a := h2 m' g1
  have b := g2 m h1
  rw [e, show m' = m by omega]
theorem needs_enough (t : Service) (k : Nat) (h : Part) : t.needs k h = least (enough t k h t.plans) := rfl
/-! ### best -/
section
variable (f : List Nat → Part)
def keepB (r : Option Best) (l : List Nat) : Option Best :=
  match r with
  | none => some ⟨f l, 1, l⟩
  | some x => if less (f l) x.clear = true then some ⟨f l, 1, l⟩ else if f l = x.clear then some ⟨x.clear, x.many + 1, x.row⟩ else some x
def soon (m : Part) (l : List Nat) : Part := if less (f l) m = true then f l else m
structure BInv (ls : List (List Nat)) (m0 : Part) (b : Best) : Prop where
  low : ∀ l ∈ ls, ¬ less (f l) b.clear = true
  good : ∃ tl, ls.filter (fun l => decide (f l = b.clear)) = b.row :: tl ∧ b.many = tl.length + 1
  cl : b.clear = ls.foldl (soon f) m0
  att : 0 < b.clear.2 ∧ lowest b.clear = b.clear
end
theorem less_irrefl (x : Part) : ¬ less x x = true := by rw [less_iff]; exact Nat.lt_irrefl _
theorem less_trans_not {a b c : Part} (hb : 0 < b.2) (hc : 0 < c.2) (h1 : less a b = true) (h2 : ¬ less c b = true) : ¬ less c a = true := by
  rw [less_iff] at h1 h2 ⊢
  intro h3
  apply h2
  -- c1*a2 < a1*c2, a1*b2 < b1*a2
  have e1 : c.1 * a.2 * b.2 < a.1 * c.2 * b.2 := Nat.mul_lt_mul_of_pos_right h3 hb
  have e2 : a.1 * b.2 * c.2 < b.1 * a.2 * c.2 := Nat.mul_lt_mul_of_pos_right h1 hc
  have e3 : a.1 * c.2 * b.2 = a.1 * b.2 * c.2 := by rw [Nat.mul_assoc, Nat.mul_assoc, Nat.mul_comm c.2]
  have e4 : c.1 * a.2 * b.2 = c.1 * b.2 * a.2 := by rw [Nat.mul_assoc, Nat.mul_assoc, Nat.mul_comm a.2]
  have e5 : b.1 * a.2 * c.2 = b.1 * c.2 * a.2 := by rw [Nat.mul_assoc, Nat.mul_assoc, Nat.mul_comm a.2]
  rw [e3, e4] at e1
  rw [e5] at e2
  exact Nat.lt_of_mul_lt_mul_right (Nat.lt_trans e1 e2)
theorem binv_step {f : List Nat → Part} (hf : ∀ l, 0 < (f l).2 ∧ lowest (f l) = f l) {ls : List (List Nat)} {m0 : Part} {b : Best} (h : BInv f ls m0 b) (l : List Nat) :
    ∃ b', keepB f (some b) l = some b' ∧ BInv f (ls ++ [l]) m0 b' := by
  obtain ⟨tl, hg, hm⟩ := h.good
  have ec : (ls ++ [l]).foldl (soon f) m0 = soon f b.clear l := by rw [List.foldl_append, ← h.cl]; rfl
  by_cases c : less (f l) b.clear = true
  · refine ⟨⟨f l, 1, l⟩, if_pos c, ⟨fun x hx => ?_, ⟨[], ?_, rfl⟩, ?_, hf l⟩⟩
    · rcases List.mem_append.mp hx with hx | hx
      · exact less_trans_not h.att.1 (hf x).1 c (h.low x hx)
      · have : x = l := by simpa using hx
        subst this
        exact less_irrefl _
    · rw [List.filter_append]
      have e : ls.filter (fun x => decide (f x = f l)) = [] := by
        rw [List.filter_eq_nil_iff]
        intro x hx z
        have z := of_decide_eq_true z
        exact h.low x hx (by rw [z]; exact c)
      rw [e]
      show [l].filter (fun x => decide (f x = f l)) = [l]
      rw [List.filter_cons, if_pos (decide_eq_true rfl)]
      rfl
    · rw [ec]
      show f l = _
      unfold soon
      rw [if_pos c]
  · have ec' : (ls ++ [l]).foldl (soon f) m0 = b.clear := by
      rw [ec]
      unfold soon
      rw [if_neg c]
    have lw : ∀ x ∈ ls ++ [l], ¬ less (f x) b.clear = true := fun x hx => by
      rcases List.mem_append.mp hx with hx | hx
      · exact h.low x hx
      · have : x = l := by simpa using hx
        subst this
        exact c
    by_cases d : f l = b.clear
    · refine ⟨⟨b.clear, b.many + 1, b.row⟩, (if_neg c).trans (if_pos d), ⟨lw, ⟨tl ++ [l], ?_, ?_⟩, ec'.symm, h.att⟩⟩
      · rw [List.filter_append, hg, List.filter_cons, if_pos (decide_eq_true d)]
        rfl
      · rw [List.length_append, hm]
        rfl
    · refine ⟨b, (if_neg c).trans (if_neg d), ⟨lw, ⟨tl, ?_, hm⟩, ec'.symm, h.att⟩⟩
      rw [List.filter_append, hg, List.filter_cons, if_neg (fun z => d (of_decide_eq_true z))]
      rw [List.filter_nil, List.append_nil]
theorem binv_all {f : List Nat → Part} (hf : ∀ l, 0 < (f l).2 ∧ lowest (f l) = f l) {m0 : Part} : ∀ (rs ls : List (List Nat)) (b : Best), BInv f ls m0 b → ∃ b', rs.foldl (keepB f) (some b) = some b' ∧ BInv f (ls ++ rs) m0 b'
  | [], ls, b, h => ⟨b, rfl, by rw [List.append_nil]; exact h⟩
  | r :: rs, ls, b, h => by
    obtain ⟨b1, e1, h1⟩ := binv_step hf h r
    obtain ⟨b2, e2, h2⟩ := binv_all hf rs (ls ++ [r]) b1 h1
    refine ⟨b2, ?_, ?_⟩
    · rw [List.foldl_cons, e1]
      exact e2
    · rw [List.append_assoc] at h2
      exact h2
def clr (t : Service) (l : List Nat) : Part := lowest (t.clear l)
theorem clr_ok {t : Service} (o : Ok t) (l : List Nat) : 0 < (clr t l).2 ∧ lowest (clr t l) = clr t l := ⟨(lowest_parts (clear_pos o l)).2.2, lowest_lowest (clear_pos o l)⟩
theorem clr_in {t : Service} (o : Ok t) {l : List Nat} (hl : l.length ≤ 8) : (clr t l).1 ≤ 8000 ∧ 0 < (clr t l).2 ∧ (clr t l).2 ≤ 1000 := by
  have h := clearTo_in o hl t.speeds.length (Nat.le_refl _)
  rw [clearTo_all] at h
  refine ⟨?_, (clr_ok o l).1, ?_⟩
  · unfold clr
    rw [lowest_of h.2.1]
    exact Nat.le_trans (Nat.div_le_self _ _) h.1
  · unfold clr
    rw [lowest_of h.2.1]
    exact Nat.le_trans (Nat.div_le_self _ _) h.2.2
theorem best_none {t : Service} (h : t.plans = []) : t.best = none := by
  unfold Service.best
  rw [h]
  rfl
theorem best_some {t : Service} (o : Ok t) {p : List Nat} {rs : List (List Nat)} (h : t.plans = p :: rs) :
    ∃ row tl, t.plans.filter (fun l => decide (clr t l = t.plans.foldl (soon (clr t)) (clr t p))) = row :: tl ∧ t.best = some ⟨t.plans.foldl (soon (clr t)) (clr t p), tl.length + 1, row⟩ := by
  have e : t.best = t.plans.foldl (keepB (clr t)) none := rfl
  have hs : soon (clr t) (clr t p) p = clr t p := by
    unfold soon
    rw [if_neg (less_irrefl _)]
  have h0 : BInv (clr t) [p] (clr t p) ⟨clr t p, 1, p⟩ := by
    refine ⟨fun x hx => ?_, ⟨[], ?_, rfl⟩, hs.symm, clr_ok o p⟩
    · have : x = p := by simpa using hx
      subst this
      exact less_irrefl _
    · rw [List.filter_cons, if_pos (decide_eq_true rfl)]
      rfl
  obtain ⟨b, e1, hb⟩ := binv_all (clr_ok o) rs [p] _ h0
  have e2 : [p] ++ rs = t.plans := h.symm
  rw [e2] at hb
  obtain ⟨tl, g1, g2⟩ := hb.good
  rw [hb.cl] at g1
  refine ⟨b.row, tl, g1, ?_⟩
  rw [e, h, List.foldl_cons]
  show rs.foldl (keepB (clr t)) (some ⟨clr t p, 1, p⟩) = _
  rw [e1, ← h, ← hb.cl, ← g2]
/-! ### street by street -/
def pickTo (t : Service) (l : List Nat) (i : Nat) : Nat := (List.range i).foldl (fun (m : Nat) k => if less (t.share (l ++ [k]) k, t.speed k) (t.share (l ++ [m]) m, t.speed m) = true then k else m) 0
theorem pickTo_succ (t : Service) (l : List Nat) (i : Nat) : pickTo t l (i + 1) = if less (t.share l i + t.streets.getD l.length 0, t.speed i) (t.share l (pickTo t l i) + t.streets.getD l.length 0, t.speed (pickTo t l i)) = true then i else pickTo t l i := by
  have e : ∀ k, t.share (l ++ [k]) k = t.share l k + t.streets.getD l.length 0 := fun k => by rw [share_snoc, if_pos rfl]
  unfold pickTo
  rw [List.range_succ, List.foldl_append]
  show (if less (t.share (l ++ [i]) i, t.speed i) (t.share (l ++ [_]) _, t.speed _) = true then i else _) = _
  rw [e, e]
theorem pickTo_lt (t : Service) (l : List Nat) {n : Nat} (hn : 0 < n) : ∀ i, i ≤ n → pickTo t l i < n
  | 0, _ => hn
  | i + 1, h => by
    rw [pickTo_succ]
    split
    · omega
    · exact pickTo_lt t l hn i (by omega)
def plainTo (t : Service) : Nat → List Nat
  | 0 => []
  | i + 1 => plainTo t i ++ [pickTo t (plainTo t i) t.speeds.length]
theorem plainTo_len (t : Service) : ∀ i, (plainTo t i).length = i
  | 0 => rfl
  | i + 1 => by
    show (plainTo t i ++ [_]).length = _
    rw [List.length_append, plainTo_len t i]
    rfl
theorem plainTo_lt {t : Service} (o : Ok t) : ∀ i, ∀ x ∈ plainTo t i, x < t.speeds.length
  | 0, x, h => by cases h
  | i + 1, x, h => by
    rcases List.mem_append.mp (show x ∈ plainTo t i ++ [_] from h) with h | h
    · exact plainTo_lt o i x h
    · have : x = pickTo t (plainTo t i) t.speeds.length := by simpa using h
      rw [this]
      exact pickTo_lt t _ o.sp1 _ (Nat.le_refl _)
theorem plainFrom_to (t : Service) : ∀ n i, t.plainFrom n (plainTo t i) = plainTo t (i + n)
  | 0, _ => rfl
  | n + 1, i => by
    show t.plainFrom n (plainTo t (i + 1)) = _
    rw [plainFrom_to t n, Nat.add_assoc, Nat.add_comm 1 n]
theorem plain_to (t : Service) : t.plain = plainTo t t.streets.length := by
  have := plainFrom_to t t.streets.length 0
  rw [Nat.zero_add] at this
  exact this
/-! ### why a plan can't be -/
def why (t : Service) (l : List Nat) : List Int :=
  match t.near l with
  | some x => [-6, (x.1 : Int), (x.2 : Int)]
  | none => match t.far l with
    | some x => [-7, (x.1 : Int), (x.2 : Int)]
    | none => []
theorem why_nil (t : Service) (l : List Nat) : (why t l).isEmpty = ((t.near l).isNone && (t.far l).isNone) := by
  unfold why
  cases t.near l with
  | some x => rfl
  | none =>
    cases t.far l with
    | some x => rfl
    | none => rfl
theorem told_plain {t : Service} (o : Ok t) : t.told t.plain = true := by
  unfold Service.told
  rw [plain_to, plainTo_len, Bool.and_eq_true]
  exact ⟨beq_self_eq_true _, List.all_eq_true.mpr fun x hx => decide_eq_true (plainTo_lt o _ x hx)⟩
theorem right_told {t : Service} {l : List Nat} (h : t.told l = true) : t.right l = (why t l).isEmpty := by
  unfold Service.right
  rw [h, Bool.true_and, why_nil]
theorem told_parts {t : Service} {l : List Nat} (h : t.told l = true) : l.length = t.streets.length ∧ ∀ x ∈ l, x < t.speeds.length := by
  unfold Service.told at h
  rw [Bool.and_eq_true] at h
  exact ⟨by simpa using h.1, fun x hx => of_decide_eq_true (List.all_eq_true.mp h.2 x hx)⟩
/-- the answer of check -/
theorem step_check {t : Service} {l : List Nat} (h : t.told l = true) : step t (.check l) = (t, if (why t l).isEmpty = true then ⟨0, Si74.ints (both (clr t l) ++ shares t l)⟩ else ⟨(why t l).headD 0, (why t l).tail⟩) := by
  show (if t.told l = false then _ else _) = _
  rw [if_neg (by rw [h]; decide)]
  congr 1
  unfold why
  cases t.near l with
  | some x => rfl
  | none =>
    cases t.far l with
    | some x => rfl
    | none => rfl
theorem step_check_said {t : Service} {l : List Nat} (h : t.told l = true) : said (step t (.check l)).2 = if (why t l).isEmpty = true then 0 :: Si74.ints (both (clr t l) ++ shares t l) else why t l := by
  rw [step_check h]
  by_cases c : (why t l).isEmpty = true
  · rw [if_pos c, if_pos c]
    rfl
  · rw [if_neg c, if_neg c]
    cases e : why t l with
    | nil => rw [e] at c; exact (c rfl).elim
    | cons x xs => rfl
theorem plans_sub {t : Service} {l : List Nat} (h : l ∈ t.plans) : t.told l = true := told_rows (plan_rows h)
theorem pow3 : ∀ {k n : Nat}, k ≤ 3 → n ≤ 6 → k ^ n ≤ 729 := fun {k n} hk hn => Nat.le_trans (Nat.pow_le_pow_left hk n) (Nat.pow_le_pow_right (by decide) hn)
theorem rows_few {t : Service} (o : Ok t) {n : Nat} (hn : n ≤ t.streets.length) : (rows t.speeds.length n).length ≤ 729 := by
  rw [rows_count]
  exact pow3 o.sp3 (Nat.le_trans hn o.st6)
theorem plans_few {t : Service} (o : Ok t) : t.plans.length ≤ 729 := Nat.le_trans (List.length_filter_le _ _) (rows_few o (Nat.le_refl _))
end SR
end
section
/-! The service as it stands in the heap, and what a call on it promises. -/
set_option Elab.async false
set_option linter.all false
set_option maxRecDepth 100000
set_option maxHeartbeats 2000000
namespace Pw
open PySem PySem.Spec PyProof.Rows L2
open SR (Good enc run said)
open Si74 (Service Call step)

/-! ### heaps -/
def Keep (F : List Addr) (H H' : Hp) : Prop := ∀ b o, H b = some o → b ∉ F → H' b = some o
theorem Keep.refl {F : List Addr} {H : Hp} : Keep F H H := fun _ _ h _ => h
theorem Keep.trans {F : List Addr} {H H1 H2 : Hp} (a : Keep F H H1) (b : Keep F H1 H2) : Keep F H H2 := fun c o h n => b c o (a c o h n) n
theorem Keep.new {F : List Addr} {H H1 : Hp} {p : Addr} {o : HO} (k : Keep F H H1) (h : H1 p = none) : Keep F H (upd H1 p o) := fun b u e n => by
  rw [upd_ne (ne_of_none (k b u e n) h)]
  exact k b u e n
theorem Keep.set {F : List Addr} {H H1 : Hp} {p : Addr} {o : HO} (k : Keep F H H1) (h : p ∈ F) : Keep F H (upd H1 p o) := fun b u e n => by
  rw [upd_ne (fun z => n (by rw [z]; exact h))]
  exact k b u e n
theorem Keep.mono {F F' : List Addr} {H H' : Hp} (k : Keep F H H') (h : ∀ b ∈ F, b ∈ F') : Keep F' H H' := fun b o e n => k b o e fun m => n (h b m)
theorem Keep.of_same {F : List Addr} {H H' : Hp} (k : Same H H') : Keep F H H' := fun b o e _ => k b o e
theorem same_new {H : Hp} {p : Addr} {o : HO} (h : H p = none) : Same H (upd H p o) := fun b u e => by
  rw [upd_ne (ne_of_none e h)]
  exact e
/-- a list that is read and not among what may change -/
theorem Keep.seq {F : List Addr} {K : PySem.W.Frag} {H H' : Hp} {a : Addr} {xs : List V} (k : Keep F H H') (n : a ∉ F) (h : SqL K H a xs) : SqL K H' a xs := by
  rcases h with (h | ⟨o, h⟩) | h
  · exact .inl (.inl (k _ _ h n))
  · exact .inl (.inr ⟨o, k _ _ h n⟩)
  · exact .inr h

/-! ### numbers and pairs as they stand there -/
def vn (l : List Nat) : List V := l.map fun (n : Nat) => V.int (n : Int)
theorem vn_len (l : List Nat) : (vn l).length = l.length := List.length_map _
theorem vn_app (l r : List Nat) : vn (l ++ r) = vn l ++ vn r := List.map_append
theorem vn_ints (l : List Nat) : vn l = (Si74.ints l).map V.int := by
  unfold vn Si74.ints
  rw [List.map_map]
  rfl
def vp (x : Nat × Nat) : HO := .tup [.int (x.1 : Int), .int (x.2 : Int)]
/-- a list of pairs stands at l -/
def PairsAt (H : Hp) (l : Addr) (ps : List (Nat × Nat)) : Prop :=
  ∃ as : List Addr, H l = some (.lst (as.map V.ref)) ∧ as.map H = ps.map fun x => some (vp x)
theorem PairsAt.keep {F : List Addr} {H H' : Hp} {l : Addr} {ps : List (Nat × Nat)} (h : PairsAt H l ps) (k : Keep F H H') (n : l ∉ F) (nt : ∀ b x, H b = some (vp x) → b ∉ F) : PairsAt H' l ps := by
  obtain ⟨as, e, f⟩ := h
  refine ⟨as, k _ _ e n, ?_⟩
  clear e n
  induction as generalizing ps with
  | nil => exact f
  | cons a as ih =>
    cases ps with
    | nil => simp at f
    | cons x ps =>
      rw [List.map_cons, List.map_cons] at f ⊢
      obtain ⟨f1, f2⟩ := List.cons.inj f
      rw [k a _ f1 (nt a x f1), ih f2]
theorem PairsAt.len {H : Hp} {l : Addr} {ps : List (Nat × Nat)} (h : PairsAt H l ps) : ∃ xs, H l = some (.lst xs) ∧ xs.length = ps.length := by
  obtain ⟨as, e, f⟩ := h
  refine ⟨_, e, ?_⟩
  have := congrArg List.length f
  simpa using this

/-! ### the service -/
def sf (a b c d : V) : List (Str × V) := [("ploughs", a), ("streets", b), ("apart_pairs", c), ("together_pairs", d)]
structure SvcAt (C : Addr) (H : Hp) (a dx lp ls la lt : Addr) (t : Service) : Prop where
  obj : H a = some (.ins C dx (sf (.ref lp) (.ref ls) (.ref la) (.ref lt)))
  sp : H lp = some (.lst (vn t.speeds))
  st : H ls = some (.lst (vn t.streets))
  ap : PairsAt H la t.apart
  tg : PairsAt H lt t.together
  n1 : ls ≠ la
  n2 : ls ≠ lt
  n3 : la ≠ lt
  n4 : lp ≠ ls
  n5 : lp ≠ la
  n6 : lp ≠ lt
/-- a service in the state t stands at a; what a call on it may change lies in F -/
def Svc (C : Addr) (H : Hp) (a : Addr) (t : Service) (F : List Addr) : Prop := ∃ dx lp ls la lt, SvcAt C H a dx lp ls la lt t ∧ F = [a, ls, la, lt, lp]
/-- what a call q on it promises -/
def Does (C : Addr) (t : Service) (q : Call) (a : Addr) (F : List Addr) (H : Hp) (Q : VK) : Prop :=
  ∀ (H' : Hp) (F' : List Addr) (p : Addr), Keep F H H' → Svc C H' a (step t q).1 F' → (∀ b ∈ F', b ∈ F ∨ H b = none) → H p = none → p ∉ F' → H' p = some (.lst ((said (step t q).2).map V.int)) → Q (.ref p) H'
theorem sf_p (a b c d : V) : (sf a b c d).lookup ("ploughs" : Str) = some a := by rfl
theorem sf_s (a b c d : V) : (sf a b c d).lookup ("streets" : Str) = some b := by rfl
theorem sf_a (a b c d : V) : (sf a b c d).lookup ("apart_pairs" : Str) = some c := by rfl
theorem sf_t (a b c d : V) : (sf a b c d).lookup ("together_pairs" : Str) = some d := by rfl

theorem PairsAt.same {H H' : Hp} {l : Addr} {ps : List (Nat × Nat)} (h : PairsAt H l ps) (k : Same H H') : PairsAt H' l ps :=
  h.keep (F := []) (Keep.of_same k) (by simp) (by intro _ _ _; simp)
theorem SvcAt.same {C : Addr} {H H' : Hp} {a dx lp ls la lt : Addr} {t : Service} (h : SvcAt C H a dx lp ls la lt t) (k : Same H H') : SvcAt C H' a dx lp ls la lt t :=
  ⟨k _ _ h.obj, k _ _ h.sp, k _ _ h.st, h.ap.same k, h.tg.same k, h.n1, h.n2, h.n3, h.n4, h.n5, h.n6⟩
theorem Svc.same {C : Addr} {H H' : Hp} {a : Addr} {t : Service} {F : List Addr} (h : Svc C H a t F) (k : Same H H') : Svc C H' a t F := by
  obtain ⟨dx, lp, ls, la, lt, h, e⟩ := h
  exact ⟨dx, lp, ls, la, lt, h.same k, e⟩
theorem Svc.not_new {C : Addr} {H : Hp} {a p : Addr} {t : Service} {F : List Addr} (h : Svc C H a t F) (hp : H p = none) : p ∉ F := by
  obtain ⟨dx, lp, ls, la, lt, h, rfl⟩ := h
  obtain ⟨xs, e1, _⟩ := h.ap.len
  obtain ⟨ys, e2, _⟩ := h.tg.len
  intro m
  have n1 := ne_of_none h.obj hp
  have n2 := ne_of_none h.st hp
  have n3 := ne_of_none e1 hp
  have n4 := ne_of_none e2 hp
  have n5 := ne_of_none h.sp hp
  simp only [List.mem_cons, List.not_mem_nil, or_false] at m
  rcases m with m | m | m | m | m
  · exact n1 m.symm
  · exact n2 m.symm
  · exact n3 m.symm
  · exact n4 m.symm
  · exact n5 m.symm
/-- another list changes -/
theorem Svc.frame {C : Addr} {H : Hp} {a l : Addr} {t : Service} {F : List Addr} {xs : List V} {o : HO} (S : Svc C H a t F) (hl : H l = some (.lst xs)) (nl : l ∉ F) : Svc C (upd H l o) a t F := by
  obtain ⟨dx, lp, ls, la, lt, h, rfl⟩ := S
  simp only [List.mem_cons, List.not_mem_nil, or_false, not_or] at nl
  obtain ⟨n1, n2, n3, n4, n5⟩ := nl
  have k : Keep [l] H (upd H l o) := Keep.refl.set List.mem_cons_self
  have nt : ∀ b x, H b = some (vp x) → b ∉ [l] := fun b x e m => by
    have : b = l := by simpa using m
    rw [this, hl] at e
    cases e
  exact ⟨dx, lp, ls, la, lt, ⟨(upd_ne (Ne.symm n1)).trans h.obj, (upd_ne (Ne.symm n5)).trans h.sp, (upd_ne (Ne.symm n2)).trans h.st, h.ap.keep k (by simp; exact Ne.symm n3) nt, h.tg.keep k (by simp; exact Ne.symm n4) nt, h.n1, h.n2, h.n3, h.n4, h.n5, h.n6⟩, rfl⟩
/-- a call that changes nothing and answers a new list -/
theorem Does.still {C : Addr} {t : Service} {q : Call} {a : Addr} {F : List Addr} {H H1 : Hp} {Q : VK} {p : Addr} (d : Does C t q a F H Q) (S : Svc C H a t F) (k : Same H H1) (e : (step t q).1 = t) (hp : H1 p = none) :
    Q (.ref p) (upd H1 p (.lst ((said (step t q).2).map V.int))) := by
  have hp0 : H p = none := k.free hp
  refine d _ F p ((Keep.of_same k).new hp) ?_ (fun b hb => .inl hb) hp0 (S.not_new hp0) upd_same
  rw [e]
  exact (S.same k).same (same_new hp)
/-- a def of the module -/
structure Dn (K : PySem.W.Frag) (mg : Str → Option Value) (x qual : Str) (st : Stmt) (ps : List Str) (f : Addr) (fd : FuncData) : Prop where
  fn : Fun K x qual st f fd
  b : Binds K fd ps []
  m : mg x = some (.ref f)
theorem Dn.k {K : PySem.W.Frag} {mg : Str → Option Value} {x qual : Str} {st : Stmt} {ps : List Str} {f : Addr} {fd : FuncData} (d : Dn K mg x qual st ps f fd) : PySem.W.keepIn K (.ref f) = true := d.fn.kp
/-- a method of the class at C -/
structure Mn (K : PySem.W.Frag) (C : Addr) (x qual : Str) (st : Stmt) (ps : List Str) (f : Addr) (fd : FuncData) : Prop where
  fn : Fun K x qual st f fd
  b : Binds K fd ps []
  mt : Meth K C x f

end Pw
end
section
/-! The text by places, and what the top has bound (written by frame.py). -/
set_option Elab.async false
set_option linter.all false
set_option maxRecDepth 100000
set_option maxHeartbeats 2000000
namespace Pw
open PySem PySem.Spec PyProof.Rows L2
def top (i : Nat) : Stmt := PySem.Challenge.pw_snowploughs_s01_answers.main.body.getD i (.Pass ⟨0, 0, 0, 0⟩)
abbrev s_Service_init : Stmt := inClass (top 20) 0
abbrev s_Service_begin : Stmt := inClass (top 20) 1
abbrev s_Service_add_street : Stmt := inClass (top 20) 2
abbrev s_Service_tell_apart : Stmt := inClass (top 20) 3
abbrev s_Service_tell_together : Stmt := inClass (top 20) 4
abbrev s_Service_tell_pair : Stmt := inClass (top 20) 5
abbrev s_Service_check : Stmt := inClass (top 20) 6
abbrev s_Service_best : Stmt := inClass (top 20) 7
abbrev s_Service_needs : Stmt := inClass (top 20) 8
abbrev s_Service_plain : Stmt := inClass (top 20) 9
abbrev s_Service_is_plan : Stmt := inClass (top 20) 10
abbrev s_Service_why_not : Stmt := inClass (top 20) 11
abbrev s_Service_can_be : Stmt := inClass (top 20) 12
abbrev s_Service_plans_that_can_be : Stmt := inClass (top 20) 13
abbrev s_Service_shares_of : Stmt := inClass (top 20) 14
abbrev s_Service_all_clear : Stmt := inClass (top 20) 15
abbrev s_Service_others_are_done : Stmt := inClass (top 20) 16
abbrev s_Service_street_by_street : Stmt := inClass (top 20) 17
abbrev s_Service_soonest_plough : Stmt := inClass (top 20) 18
abbrev s_is_metres : Stmt := top 21
abbrev s_is_minutes : Stmt := top 22
abbrev s_is_less : Stmt := top 23
abbrev s_lowest_terms : Stmt := top 24
abbrev s_least_metres : Stmt := top 25
abbrev s_every_plan : Stmt := top 26
abbrev s_call_length : Stmt := top 27
abbrev s_answer_call : Stmt := top 28
abbrev s_answers : Stmt := top 29
structure Ads where
  C_Service : Addr
  f_Service_init : Addr
  f_Service_begin : Addr
  f_Service_add_street : Addr
  f_Service_tell_apart : Addr
  f_Service_tell_together : Addr
  f_Service_tell_pair : Addr
  f_Service_check : Addr
  f_Service_best : Addr
  f_Service_needs : Addr
  f_Service_plain : Addr
  f_Service_is_plan : Addr
  f_Service_why_not : Addr
  f_Service_can_be : Addr
  f_Service_plans_that_can_be : Addr
  f_Service_shares_of : Addr
  f_Service_all_clear : Addr
  f_Service_others_are_done : Addr
  f_Service_street_by_street : Addr
  f_Service_soonest_plough : Addr
  f_is_metres : Addr
  f_is_minutes : Addr
  f_is_less : Addr
  f_lowest_terms : Addr
  f_least_metres : Addr
  f_every_plan : Addr
  f_call_length : Addr
  f_answer_call : Addr
  f_answers : Addr
  d_Service_init : FuncData
  d_Service_begin : FuncData
  d_Service_add_street : FuncData
  d_Service_tell_apart : FuncData
  d_Service_tell_together : FuncData
  d_Service_tell_pair : FuncData
  d_Service_check : FuncData
  d_Service_best : FuncData
  d_Service_needs : FuncData
  d_Service_plain : FuncData
  d_Service_is_plan : FuncData
  d_Service_why_not : FuncData
  d_Service_can_be : FuncData
  d_Service_plans_that_can_be : FuncData
  d_Service_shares_of : FuncData
  d_Service_all_clear : FuncData
  d_Service_others_are_done : FuncData
  d_Service_street_by_street : FuncData
  d_Service_soonest_plough : FuncData
  d_is_metres : FuncData
  d_is_minutes : FuncData
  d_is_less : FuncData
  d_lowest_terms : FuncData
  d_least_metres : FuncData
  d_every_plan : FuncData
  d_call_length : FuncData
  d_answer_call : FuncData
  d_answers : FuncData
structure Alls (K : PySem.W.Frag) (mg : Str → Option Value) (z : Ads) : Prop where
  cl_Service : Cls K z.C_Service
  mg_Service : mg "Service" = some (.ref z.C_Service)
  mk_Service : Mk K z.C_Service z.f_Service_init
  n_Service_ploughs : NoAttr K z.C_Service "ploughs"
  n_Service_streets : NoAttr K z.C_Service "streets"
  n_Service_apart_pairs : NoAttr K z.C_Service "apart_pairs"
  n_Service_together_pairs : NoAttr K z.C_Service "together_pairs"
  b_all : mg "all" = none
  b_enumerate : mg "enumerate" = none
  b_len : mg "len" = none
  b_list : mg "list" = none
  b_max : mg "max" = none
  b_min : mg "min" = none
  b_range : mg "range" = none
  b_zip : mg "zip" = none
  g_BEGINS : ∃ u, mg "BEGINS" = some u ∧ RelV (.int (0)) u
  g_STREET : ∃ u, mg "STREET" = some u ∧ RelV (.int (1)) u
  g_APART : ∃ u, mg "APART" = some u ∧ RelV (.int (2)) u
  g_TOGETHER : ∃ u, mg "TOGETHER" = some u ∧ RelV (.int (3)) u
  g_CHECK : ∃ u, mg "CHECK" = some u ∧ RelV (.int (4)) u
  g_BEST : ∃ u, mg "BEST" = some u ∧ RelV (.int (5)) u
  g_NEEDS : ∃ u, mg "NEEDS" = some u ∧ RelV (.int (6)) u
  g_MOST_PLOUGHS : ∃ u, mg "MOST_PLOUGHS" = some u ∧ RelV (.int (3)) u
  g_MOST_METRES : ∃ u, mg "MOST_METRES" = some u ∧ RelV (.int (1000)) u
  g_MOST_STREETS : ∃ u, mg "MOST_STREETS" = some u ∧ RelV (.int (6)) u
  g_MOST_MINUTES : ∃ u, mg "MOST_MINUTES" = some u ∧ RelV (.int (1000)) u
  g_DONE : ∃ u, mg "DONE" = some u ∧ RelV (.int (0)) u
  g_WRONG_NUMBER : ∃ u, mg "WRONG_NUMBER" = some u ∧ RelV (.int (-1)) u
  g_NOT_THERE : ∃ u, mg "NOT_THERE" = some u ∧ RelV (.int (-2)) u
  g_SAME_OR_TOLD : ∃ u, mg "SAME_OR_TOLD" = some u ∧ RelV (.int (-4)) u
  g_FULL : ∃ u, mg "FULL" = some u ∧ RelV (.int (-5)) u
  g_NO_PLAN : ∃ u, mg "NO_PLAN" = some u ∧ RelV (.int (-6)) u
  g_APART_BROKEN : ∃ u, mg "APART_BROKEN" = some u ∧ RelV (.int (-6)) u
  g_TOGETHER_BROKEN : ∃ u, mg "TOGETHER_BROKEN" = some u ∧ RelV (.int (-7)) u
  x_Service_init : Mn K z.C_Service "__init__" "Service.__init__" s_Service_init ["self"] z.f_Service_init z.d_Service_init
  x_Service_begin : Mn K z.C_Service "begin" "Service.begin" s_Service_begin ["self", "ploughs"] z.f_Service_begin z.d_Service_begin
  x_Service_add_street : Mn K z.C_Service "add_street" "Service.add_street" s_Service_add_street ["self", "long"] z.f_Service_add_street z.d_Service_add_street
  x_Service_tell_apart : Mn K z.C_Service "tell_apart" "Service.tell_apart" s_Service_tell_apart ["self", "street", "other"] z.f_Service_tell_apart z.d_Service_tell_apart
  x_Service_tell_together : Mn K z.C_Service "tell_together" "Service.tell_together" s_Service_tell_together ["self", "street", "other"] z.f_Service_tell_together z.d_Service_tell_together
  x_Service_tell_pair : Mn K z.C_Service "tell_pair" "Service.tell_pair" s_Service_tell_pair ["self", "pairs", "street", "other"] z.f_Service_tell_pair z.d_Service_tell_pair
  x_Service_check : Mn K z.C_Service "check" "Service.check" s_Service_check ["self", "plan"] z.f_Service_check z.d_Service_check
  x_Service_best : Mn K z.C_Service "best" "Service.best" s_Service_best ["self"] z.f_Service_best z.d_Service_best
  x_Service_needs : Mn K z.C_Service "needs" "Service.needs" s_Service_needs ["self", "plough", "a", "b"] z.f_Service_needs z.d_Service_needs
  x_Service_plain : Mn K z.C_Service "plain" "Service.plain" s_Service_plain ["self"] z.f_Service_plain z.d_Service_plain
  x_Service_is_plan : Mn K z.C_Service "is_plan" "Service.is_plan" s_Service_is_plan ["self", "plan"] z.f_Service_is_plan z.d_Service_is_plan
  x_Service_why_not : Mn K z.C_Service "why_not" "Service.why_not" s_Service_why_not ["self", "plan"] z.f_Service_why_not z.d_Service_why_not
  x_Service_can_be : Mn K z.C_Service "can_be" "Service.can_be" s_Service_can_be ["self", "plan"] z.f_Service_can_be z.d_Service_can_be
  x_Service_plans_that_can_be : Mn K z.C_Service "plans_that_can_be" "Service.plans_that_can_be" s_Service_plans_that_can_be ["self"] z.f_Service_plans_that_can_be z.d_Service_plans_that_can_be
  x_Service_shares_of : Mn K z.C_Service "shares_of" "Service.shares_of" s_Service_shares_of ["self", "plan"] z.f_Service_shares_of z.d_Service_shares_of
  x_Service_all_clear : Mn K z.C_Service "all_clear" "Service.all_clear" s_Service_all_clear ["self", "plan"] z.f_Service_all_clear z.d_Service_all_clear
  x_Service_others_are_done : Mn K z.C_Service "others_are_done" "Service.others_are_done" s_Service_others_are_done ["self", "shares", "plough", "minutes"] z.f_Service_others_are_done z.d_Service_others_are_done
  x_Service_street_by_street : Mn K z.C_Service "street_by_street" "Service.street_by_street" s_Service_street_by_street ["self"] z.f_Service_street_by_street z.d_Service_street_by_street
  x_Service_soonest_plough : Mn K z.C_Service "soonest_plough" "Service.soonest_plough" s_Service_soonest_plough ["self", "shares", "long"] z.f_Service_soonest_plough z.d_Service_soonest_plough
  x_is_metres : Dn K mg "is_metres" "is_metres" s_is_metres ["number"] z.f_is_metres z.d_is_metres
  x_is_minutes : Dn K mg "is_minutes" "is_minutes" s_is_minutes ["number"] z.f_is_minutes z.d_is_minutes
  x_is_less : Dn K mg "is_less" "is_less" s_is_less ["fraction", "other"] z.f_is_less z.d_is_less
  x_lowest_terms : Dn K mg "lowest_terms" "lowest_terms" s_lowest_terms ["fraction"] z.f_lowest_terms z.d_lowest_terms
  x_least_metres : Dn K mg "least_metres" "least_metres" s_least_metres ["share", "a", "b"] z.f_least_metres z.d_least_metres
  x_every_plan : Dn K mg "every_plan" "every_plan" s_every_plan ["street_count", "plough_count"] z.f_every_plan z.d_every_plan
  x_call_length : Dn K mg "call_length" "call_length" s_call_length ["calls", "at"] z.f_call_length z.d_call_length
  x_answer_call : Dn K mg "answer_call" "answer_call" s_answer_call ["service", "call"] z.f_answer_call z.d_answer_call
  x_answers : Dn K mg "answers" "answers" s_answers ["calls"] z.f_answers z.d_answers
theorem sc_Service_init : FnScope ["self"] ["self"] (defScope s_Service_init) := ⟨rfl, rfl, rfl, by decide +kernel, rfl, by decide +kernel, by decide +kernel⟩
theorem sc_Service_begin : FnScope ["self", "ploughs", "metres"] ["self", "ploughs"] (defScope s_Service_begin) := ⟨rfl, rfl, rfl, by decide +kernel, rfl, by decide +kernel, by decide +kernel⟩
theorem sc_Service_add_street : FnScope ["self", "long"] ["self", "long"] (defScope s_Service_add_street) := ⟨rfl, rfl, rfl, by decide +kernel, rfl, by decide +kernel, by decide +kernel⟩
theorem sc_Service_tell_apart : FnScope ["self", "street", "other"] ["self", "street", "other"] (defScope s_Service_tell_apart) := ⟨rfl, rfl, rfl, by decide +kernel, rfl, by decide +kernel, by decide +kernel⟩
theorem sc_Service_tell_together : FnScope ["self", "street", "other"] ["self", "street", "other"] (defScope s_Service_tell_together) := ⟨rfl, rfl, rfl, by decide +kernel, rfl, by decide +kernel, by decide +kernel⟩
theorem sc_Service_tell_pair : FnScope ["self", "pairs", "street", "other"] ["self", "pairs", "street", "other"] (defScope s_Service_tell_pair) := ⟨rfl, rfl, rfl, by decide +kernel, rfl, by decide +kernel, by decide +kernel⟩
theorem sc_Service_check : FnScope ["self", "plan", "refusal"] ["self", "plan"] (defScope s_Service_check) := ⟨rfl, rfl, rfl, by decide +kernel, rfl, by decide +kernel, by decide +kernel⟩
theorem sc_Service_best : FnScope ["self", "plans", "soonest", "plan", "as_good", "clear"] ["self"] (defScope s_Service_best) := ⟨rfl, rfl, rfl, by decide +kernel, rfl, by decide +kernel, by decide +kernel⟩
theorem sc_Service_needs : FnScope ["self", "plough", "a", "b", "enough", "plan", "shares"] ["self", "plough", "a", "b"] (defScope s_Service_needs) := ⟨rfl, rfl, rfl, by decide +kernel, rfl, by decide +kernel, by decide +kernel⟩
theorem sc_Service_plain : FnScope ["self", "plan", "possible"] ["self"] (defScope s_Service_plain) := ⟨rfl, rfl, rfl, by decide +kernel, rfl, by decide +kernel, by decide +kernel⟩
theorem sc_Service_is_plan : FnScope ["self", "plan", "plough"] ["self", "plan"] (defScope s_Service_is_plan) := ⟨rfl, rfl, rfl, by decide +kernel, rfl, by decide +kernel, by decide +kernel⟩
theorem sc_Service_why_not : FnScope ["self", "plan", "street", "other"] ["self", "plan"] (defScope s_Service_why_not) := ⟨rfl, rfl, rfl, by decide +kernel, rfl, by decide +kernel, by decide +kernel⟩
theorem sc_Service_can_be : FnScope ["self", "plan"] ["self", "plan"] (defScope s_Service_can_be) := ⟨rfl, rfl, rfl, by decide +kernel, rfl, by decide +kernel, by decide +kernel⟩
theorem sc_Service_plans_that_can_be : FnScope ["self", "plan"] ["self"] (defScope s_Service_plans_that_can_be) := ⟨rfl, rfl, rfl, by decide +kernel, rfl, by decide +kernel, by decide +kernel⟩
theorem sc_Service_shares_of : FnScope ["self", "plan", "metres", "street", "plough"] ["self", "plan"] (defScope s_Service_shares_of) := ⟨rfl, rfl, rfl, by decide +kernel, rfl, by decide +kernel, by decide +kernel⟩
theorem sc_Service_all_clear : FnScope ["self", "plan", "last", "metres", "speed"] ["self", "plan"] (defScope s_Service_all_clear) := ⟨rfl, rfl, rfl, by decide +kernel, rfl, by decide +kernel, by decide +kernel⟩
theorem sc_Service_others_are_done : FnScope ["self", "shares", "plough", "minutes", "other", "speed"] ["self", "shares", "plough", "minutes"] (defScope s_Service_others_are_done) := ⟨rfl, rfl, rfl, by decide +kernel, rfl, by decide +kernel, by decide +kernel⟩
theorem sc_Service_street_by_street : FnScope ["self", "plan", "shares", "long", "plough"] ["self"] (defScope s_Service_street_by_street) := ⟨rfl, rfl, rfl, by decide +kernel, rfl, by decide +kernel, by decide +kernel⟩
theorem sc_Service_soonest_plough : FnScope ["self", "shares", "long", "soonest", "plough", "speed"] ["self", "shares", "long"] (defScope s_Service_soonest_plough) := ⟨rfl, rfl, rfl, by decide +kernel, rfl, by decide +kernel, by decide +kernel⟩
theorem sc_is_metres : FnScope ["number"] ["number"] (defScope s_is_metres) := ⟨rfl, rfl, rfl, by decide +kernel, rfl, by decide +kernel, by decide +kernel⟩
theorem sc_is_minutes : FnScope ["number"] ["number"] (defScope s_is_minutes) := ⟨rfl, rfl, rfl, by decide +kernel, rfl, by decide +kernel, by decide +kernel⟩
theorem sc_is_less : FnScope ["fraction", "other"] ["fraction", "other"] (defScope s_is_less) := ⟨rfl, rfl, rfl, by decide +kernel, rfl, by decide +kernel, by decide +kernel⟩
theorem sc_lowest_terms : FnScope ["fraction", "divisor", "rest", "before"] ["fraction"] (defScope s_lowest_terms) := ⟨rfl, rfl, rfl, by decide +kernel, rfl, by decide +kernel, by decide +kernel⟩
theorem sc_least_metres : FnScope ["share", "a", "b"] ["share", "a", "b"] (defScope s_least_metres) := ⟨rfl, rfl, rfl, by decide +kernel, rfl, by decide +kernel, by decide +kernel⟩
theorem sc_every_plan : FnScope ["street_count", "plough_count", "plans", "street", "longer", "plan", "plough"] ["street_count", "plough_count"] (defScope s_every_plan) := ⟨rfl, rfl, rfl, by decide +kernel, rfl, by decide +kernel, by decide +kernel⟩
theorem sc_call_length : FnScope ["calls", "at", "number"] ["calls", "at"] (defScope s_call_length) := ⟨rfl, rfl, rfl, by decide +kernel, rfl, by decide +kernel, by decide +kernel⟩
theorem sc_answer_call : FnScope ["service", "call", "number"] ["service", "call"] (defScope s_answer_call) := ⟨rfl, rfl, rfl, by decide +kernel, rfl, by decide +kernel, by decide +kernel⟩
theorem sc_answers : FnScope ["calls", "service", "told", "at", "end", "answer"] ["calls"] (defScope s_answers) := ⟨rfl, rfl, rfl, by decide +kernel, rfl, by decide +kernel, by decide +kernel⟩
end Pw
end
section
/-! The defs of the program, one theorem each. -/
set_option Elab.async false
set_option linter.all false
set_option maxRecDepth 100000
set_option maxHeartbeats 2000000
namespace Pw
open PySem PySem.Spec PyProof.Rows L2
open SR (Good enc run said after)
open Si74 (Service Call step)
def isM (n : Int) : Bool := decide (1 ≤ n) && decide (n ≤ 1000)
theorem isM_nat (n : Nat) : isM (n : Int) = (decide (1 ≤ n) && decide (n ≤ 1000)) := by
  unfold isM
  rw [Bool.eq_iff_iff, Bool.and_eq_true, Bool.and_eq_true, decide_eq_true_eq, decide_eq_true_eq, decide_eq_true_eq, decide_eq_true_eq]
  omega
theorem isM_true {n : Nat} (h : isM (n : Int) = true) : 1 ≤ n ∧ n ≤ 1000 := by
  rw [isM_nat, Bool.and_eq_true, decide_eq_true_eq, decide_eq_true_eq] at h
  exact h
theorem isM_false {n : Nat} (h : isM (n : Int) = false) : n < 1 ∨ 1000 < n := by
  rw [isM_nat, Bool.and_eq_false_iff, decide_eq_false_iff_not, decide_eq_false_iff_not] at h
  omega
section
variable {P : Program} {w : World} {K : PySem.W.Frag} {mg : Str → Option Value} {base : Heap} {z : Ads}
/-! ### is_metres -/
def spMetres : Sp := fun vs H Q _ => ∃ n : Int, vs = [.int n] ∧ Q (.bl (isM n)) H
theorem ok_is_metres (A : Alls K mg z) : FnOk P w K mg base CX0 1 z.f_is_metres z.d_is_metres ["number"] spMetres := by
  refine A.x_is_metres.fn.ok sc_is_metres (fun vs H Q E h => ?_) (fun cdv Ar outer s H vs Q E hr h => ?_)
  · obtain ⟨n, rfl, _⟩ := h
    rfl
  · obtain ⟨n, rfl, h⟩ := h
    refine ⟨_, pss_one (ps_ret (pe_chain op_le op_le pe_int (pv 0) (pe_gl rfl A.g_MOST_METRES))), ?_⟩
    refine ⟨_, rfl, _, _, rfl, rfl, _, rfl, ite2 (fun c => ?_) (fun c => ?_)⟩
    · refine ⟨_, _, rfl, rfl, ?_⟩
      rw [show isM n = decide (n ≤ 1000) by unfold isM; rw [c]; rfl] at h
      exact h
    · rw [show isM n = false by unfold isM; rw [Bool.eq_false_iff.mpr c]; rfl] at h
      exact h
/-! ### __init__ -/
def spInit (C : Addr) : Sp := fun vs H Q _ => ∃ p dx : Addr, vs = [.ref p] ∧ H p = some (.ins C dx []) ∧ H dx = some (.own p) ∧
  ∀ (H' : Hp) (F : List Addr), Svc C H' p Si74.init F → (∀ b ∈ F, b = p ∨ H b = none) → Keep [p] H H' → Q .non H'
theorem ok_Service_init (A : Alls K mg z) : FnOk P w K mg base CX0 1 z.f_Service_init z.d_Service_init ["self"] (spInit z.C_Service) := by
  refine A.x_Service_init.fn.ok sc_Service_init (fun vs H Q E h => ?_) (fun cdv Ar outer s H vs Q E hr h => ?_)
  · obtain ⟨p, dx, rfl, _⟩ := h
    rfl
  · obtain ⟨p, dx, rfl, hp, hd, k⟩ := h
    refine ⟨_, (pss_cons (ps_fld (pv 0) (pe_lst (pa_cons pe_int pa_nil)) rfl)
      (pss_cons (ps_fld (pv 0) (pe_lst pa_nil) rfl)
      (pss_cons (ps_fld (pv 0) (pe_lst pa_nil) rfl)
      (pss_one (ps_fld (pv 0) (pe_lst pa_nil) rfl))))), ?_⟩
    refine ⟨by show 1 ≤ sizeLine; decide, fun l1 h1 => ?_⟩
    have n1 : p ≠ l1 := ne_of_none hp h1
    refine ⟨_, rfl, p, z.C_Service, dx, _, rfl, (upd_ne n1).trans hp, A.cl_Service, A.n_Service_ploughs, by show 0 < 1000; decide, ?_⟩
    refine ⟨by show 0 ≤ sizeLine; decide, fun l2 h2 => ?_⟩
    have n2 : p ≠ l2 := ne_of_none upd_same h2
    have m2 : l1 ≠ l2 := ne_of_none ((upd_ne n1.symm).trans upd_same) h2
    have z2 : H l2 = none := by rw [upd_ne n2.symm, upd_ne m2.symm] at h2; exact h2
    refine ⟨_, rfl, p, z.C_Service, dx, _, rfl, (upd_ne n2).trans upd_same, A.cl_Service, A.n_Service_streets, by show 1 < 1000; decide, ?_⟩
    refine ⟨by show 0 ≤ sizeLine; decide, fun l3 h3 => ?_⟩
    have n3 : p ≠ l3 := ne_of_none upd_same h3
    have m3 : l2 ≠ l3 := ne_of_none ((upd_ne n2.symm).trans upd_same) h3
    have k3 : l1 ≠ l3 := fun e => by subst e; rw [upd_ne n1.symm, upd_ne m2, upd_ne n1.symm, upd_same] at h3; cases h3
    have z3 : H l3 = none := by rw [upd_ne n3.symm, upd_ne m3.symm, upd_ne n3.symm, upd_ne k3.symm] at h3; exact h3
    refine ⟨_, rfl, p, z.C_Service, dx, _, rfl, (upd_ne n3).trans upd_same, A.cl_Service, A.n_Service_apart_pairs, by show 2 < 1000; decide, ?_⟩
    refine ⟨by show 0 ≤ sizeLine; decide, fun l4 h4 => ?_⟩
    have n4 : p ≠ l4 := ne_of_none upd_same h4
    have m4 : l3 ≠ l4 := ne_of_none ((upd_ne n3.symm).trans upd_same) h4
    have k4 : l2 ≠ l4 := fun e => by subst e; rw [upd_ne n2.symm, upd_ne m3, upd_ne n2.symm, upd_same] at h4; cases h4
    have j4 : l1 ≠ l4 := fun e => by subst e; rw [upd_ne n1.symm, upd_ne k3, upd_ne n1.symm, upd_ne m2, upd_ne n1.symm, upd_same] at h4; cases h4
    have z4 : H l4 = none := by rw [upd_ne n4.symm, upd_ne m4.symm, upd_ne n4.symm, upd_ne k4.symm, upd_ne n4.symm, upd_ne j4.symm] at h4; exact h4
    refine ⟨_, rfl, p, z.C_Service, dx, _, rfl, (upd_ne n4).trans upd_same, A.cl_Service, A.n_Service_together_pairs, by show 3 < 1000; decide, ?_⟩
    refine k _ [p, l2, l3, l4, l1] ⟨dx, l1, l2, l3, l4, ⟨upd_same, ?_, ?_, ⟨[], ?_, rfl⟩, ⟨[], ?_, rfl⟩, m3, k4, m4, m2, k3, j4⟩, rfl⟩ ?_ ?_
    · rw [upd_ne n1.symm, upd_ne j4, upd_ne n1.symm, upd_ne k3, upd_ne n1.symm, upd_ne m2, upd_ne n1.symm, upd_same]
      rfl
    · rw [upd_ne n2.symm, upd_ne k4, upd_ne n2.symm, upd_ne m3, upd_ne n2.symm, upd_same]
      rfl
    · rw [upd_ne n3.symm, upd_ne m4, upd_ne n3.symm, upd_same]
      rfl
    · rw [upd_ne n4.symm, upd_same]
      rfl
    · intro b hb
      simp only [List.mem_cons, List.not_mem_nil, or_false] at hb
      rcases hb with rfl | rfl | rfl | rfl | rfl
      · exact .inl rfl
      · exact .inr z2
      · exact .inr z3
      · exact .inr z4
      · exact .inr h1
    · intro b o e hb
      have nb : b ≠ p := fun z => hb (by rw [z]; exact List.mem_cons_self)
      rw [upd_ne nb, upd_ne (ne_of_none e z4), upd_ne nb, upd_ne (ne_of_none e z3), upd_ne nb, upd_ne (ne_of_none e z2), upd_ne nb, upd_ne (ne_of_none e h1)]
      exact e
end

theorem size_ok {n : Nat} (h : n ≤ 1000) : n < sizeLine := Nat.lt_of_le_of_lt h (by decide)
theorem SvcAt.upd_st {C : Addr} {H : Hp} {a dx lp ls la lt : Addr} {t : Service} (h : SvcAt C H a dx lp ls la lt t) (ss : List Nat) : SvcAt C (upd H ls (.lst (vn ss))) a dx lp ls la lt { t with streets := ss } := by
  have na : a ≠ ls := ne_of h.obj h.st (by intro z; cases z)
  have k : Keep [ls] H (upd H ls (.lst (vn ss))) := Keep.refl.set List.mem_cons_self
  have nt : ∀ b x, H b = some (vp x) → b ∉ [ls] := fun b x e m => by
    have : b = ls := by simpa using m
    rw [this, h.st] at e
    cases e
  exact ⟨(upd_ne na).trans h.obj, (upd_ne h.n4).trans h.sp, upd_same, h.ap.keep k (by simp; exact h.n1.symm) nt, h.tg.keep k (by simp; exact h.n2.symm) nt, h.n1, h.n2, h.n3, h.n4, h.n5, h.n6⟩
/-- a pair more in a list of pairs -/
theorem PairsAt.push {H : Hp} {l x : Addr} {ps : List (Nat × Nat)} {q : Nat × Nat} {as : List Addr} (e : H l = some (.lst (as.map V.ref))) (f : as.map H = ps.map fun x => some (vp x)) (hx : H x = some (vp q)) :
    PairsAt (upd H l (.lst (as.map V.ref ++ [V.ref x]))) l (ps ++ [q]) := by
  have k : Keep [l] H (upd H l (.lst (as.map V.ref ++ [V.ref x]))) := Keep.refl.set List.mem_cons_self
  have nt : ∀ b y, H b = some (vp y) → b ≠ l := fun b y e' m => by
    rw [m, e] at e'
    cases e'
  refine ⟨as ++ [x], by rw [upd_same, List.map_append]; rfl, ?_⟩
  rw [List.map_append, List.map_append, ← f]
  refine congr (congrArg HAppend.hAppend ?_) ?_
  · refine List.map_congr_left fun b hb => ?_
    have : H b ∈ as.map H := List.mem_map.mpr ⟨b, hb, rfl⟩
    rw [f] at this
    obtain ⟨y, _, ey⟩ := List.mem_map.mp this
    exact upd_ne (nt b y ey.symm)
  · show [upd H l _ x] = [some (vp q)]
    rw [upd_ne (nt x q hx), hx]
section
variable {P : Program} {w : World} {K : PySem.W.Frag} {mg : Str → Option Value} {base : Heap} {z : Ads}
/-! ### add_street -/
def spStreet (C : Addr) : Sp := fun vs H Q _ => ∃ (a : Addr) (n : Nat) (t : Service) (F : List Addr), vs = [.ref a, .int (n : Int)] ∧ SR.Ok t ∧ Svc C H a t F ∧ Does C t (.street n) a F H Q
theorem ok_Service_add_street (A : Alls K mg z) : FnOk P w K mg base CX0 2 z.f_Service_add_street z.d_Service_add_street ["self", "long"] (spStreet z.C_Service) := by
  have G_is_metres : FnOk P w K mg base CX0 1 z.f_is_metres z.d_is_metres ["number"] spMetres := ok_is_metres A
  refine A.x_Service_add_street.fn.ok sc_Service_add_street (fun vs H Q E h => ?_) (fun cdv Ar outer s H vs Q E hr h => ?_)
  · obtain ⟨a, n, t, F, rfl, _⟩ := h
    rfl
  · obtain ⟨a, n, t, F, rfl, o, S, k⟩ := h
    refine ⟨_, (pss_cons (ps_if (pt_not (pt_val (pe_call G_is_metres (hr.mono (by decide)) rfl A.x_is_metres.m A.x_is_metres.k A.x_is_metres.b .nil pass0 (pa_cons (pv 1) pa_nil))))
      (pss_one (ps_ret (pe_lst (pa_cons (pe_gl rfl A.g_WRONG_NUMBER) pa_nil))))
      pss_nil)
    (pss_cons (ps_if (pt_cmpR op_eq (pe_callB call_len_seq (by rfl) A.b_len PySem.boot_len (pa_cons (pe_fld (pv 0) rfl) pa_nil)) (pe_gl rfl A.g_MOST_STREETS) (nomark _))
      (pss_one (ps_ret (pe_lst (pa_cons (pe_gl rfl A.g_FULL) pa_nil))))
      pss_nil)
    (pss_cons (ps_expr (pe_bm PySem.F.plainAttrs_list PySem.F.slot_list_append PySem.F.type_list_append mt_append (pe_fld (pv 0) rfl) (pa_cons (pv 1) pa_nil)))
    (pss_one (ps_ret (pe_lst (pa_cons (pe_op op_sub (pe_callB call_len_seq (by rfl) A.b_len PySem.boot_len (pa_cons (pe_fld (pv 0) rfl) pa_nil)) pe_int) pa_nil))))))), ?_⟩
    refine ⟨_, rfl, (n : Int), rfl, _, rfl, ite2 (fun c => ?_) (fun c => ?_)⟩
    · -- a wrong length
      have c' : isM (n : Int) = false := by cases e : isM (n : Int) <;> simp_all
      have e : step t (.street n) = (t, Si74.ok (-1)) := by
        show (if n < 1 ∨ Si74.MOST < n then _ else _) = _
        rw [if_pos (show n < 1 ∨ Si74.MOST < n from isM_false c')]
      refine ⟨by show 1 ≤ sizeLine; decide, fun p hp => ?_⟩
      have q := k.still S (Same.refl H) (by rw [e]) hp
      rw [e] at q
      exact q
    · have c' : isM (n : Int) = true := by cases e : isM (n : Int) <;> simp_all
      have r := isM_true c'
      obtain ⟨dx, lp, ls, la, lt, SA, eF⟩ := id S
      refine ⟨_, rfl, a, z.C_Service, dx, _, _, rfl, SA.obj, A.cl_Service, A.n_Service_streets, sf_s _ _ _ _, ls, _, rfl, .inl (SqL.of SA.st), rfl, _, rfl, ite2 (fun c2 => ?_) (fun c2 => ?_)⟩
      · -- full
        have c3 : t.streets.length = 6 := by
          have := of_decide_eq_true c2
          have z : ((vn t.streets).length : Int) = 6 := by injection this
          rw [vn_len] at z
          omega
        have e : step t (.street n) = (t, Si74.ok (-5)) := by
          show (if n < 1 ∨ Si74.MOST < n then _ else if Si74.STREETS ≤ t.streets.length then _ else _) = _
          rw [if_neg (by unfold Si74.MOST; omega), if_pos (by unfold Si74.STREETS; omega)]
        refine ⟨by show 1 ≤ sizeLine; decide, fun p hp => ?_⟩
        have q := k.still S (Same.refl H) (by rw [e]) hp
        rw [e] at q
        exact q
      · have c3 : t.streets.length ≠ 6 := by
          intro z
          apply c2
          rw [vn_len, z]
          rfl
        have c4 : t.streets.length < 6 := by have := o.st6; omega
        have e : step t (.street n) = ({ t with streets := t.streets ++ [n] }, Si74.ok ((t.streets.length : Nat) : Int)) := by
          show (if n < 1 ∨ Si74.MOST < n then _ else if Si74.STREETS ≤ t.streets.length then _ else _) = _
          rw [if_neg (by unfold Si74.MOST; omega), if_neg (by unfold Si74.STREETS; omega)]
        refine ⟨_, rfl, a, z.C_Service, dx, _, _, rfl, SA.obj, A.cl_Service, A.n_Service_streets, sf_s _ _ _ _, .inl ⟨rfl, _, SqL.of SA.st⟩, _, rfl, ls, _, _, rfl, rfl, SA.st, size_ok (by rw [vn_len]; omega), ?_⟩
        have na : a ≠ ls := ne_of SA.obj SA.st (by intro z; cases z)
        refine ⟨_, rfl, a, z.C_Service, dx, _, _, rfl, (upd_ne na).trans SA.obj, A.cl_Service, A.n_Service_streets, sf_s _ _ _ _, ls, _, rfl, .inl (SqL.of upd_same), _, _, rfl, rfl, by show 1 ≤ sizeLine; decide, fun p hp => ?_⟩
        have np : H p = none := by
          have : p ≠ ls := fun z => by rw [z, upd_same] at hp; cases hp
          rw [upd_ne this] at hp
          exact hp
        have S1 : SvcAt z.C_Service (upd H ls (.lst (vn (t.streets ++ [n])))) a dx lp ls la lt (step t (.street n)).1 := by rw [e]; exact SA.upd_st _
        have ev : vn (t.streets ++ [n]) = vn t.streets ++ [V.int (n : Int)] := vn_app _ _
        rw [ev] at S1
        refine k _ F p ?_ ⟨dx, lp, ls, la, lt, S1.same (same_new hp), eF⟩ (fun b hb => .inl hb) np (S.not_new np) ?_
        · exact (Keep.refl.set (by rw [eF]; simp)).new hp
        · rw [upd_same, e]
          have : (((vn t.streets ++ [V.int (n : Int)]).length : Nat) : Int) - 1 = ((t.streets.length : Nat) : Int) := by
            rw [List.length_append, vn_len]
            simp
          show some (HO.lst [V.int ((((vn t.streets ++ [V.int (n : Int)]).length : Nat) : Int) - 1)]) = _
          rw [this]
          rfl
end

theorem u66 {k : Nat} {A : Around} (hr : Room k A) : A.units + 66 < cLine := by have := hr.un; omega
/-- a pair as data -/
def dp (x : Nat × Nat) : PyData := .tuple [.int (x.1 : Int), .int (x.2 : Int)]
theorem dp_eqv (x y : Nat × Nat) : PyData.eqv (dp x) (dp y) = (x == y) := by
  have : PyData.eqv (dp x) (dp y) = ((x.1 : Int) == (y.1 : Int) && ((x.2 : Int) == (y.2 : Int) && true)) := rfl
  rw [this, Bool.and_true, Bool.eq_iff_iff, Bool.and_eq_true, beq_iff_eq, beq_iff_eq, beq_iff_eq, Prod.ext_iff]
  omega
theorem dp_depth (x : Nat × Nat) : (dp x).depth ≤ 64 := Nat.le_of_ble_eq_true rfl
theorem dp_lay (x : Nat × Nat) : (dp x).canLay0 = true := rfl
theorem dp_lays : ∀ ps : List (Nat × Nat), PyData.canLayAll0 (ps.map dp) = true
  | [] => rfl
  | x :: ps => by
    show ((dp x).canLay0 && PyData.canLayAll0 (ps.map dp)) = true
    rw [dp_lay, dp_lays ps]
    rfl
theorem dp_all {K : PySem.W.Frag} {H : Hp} : ∀ (as : List Addr) (ps : List (Nat × Nat)), as.map H = (ps.map fun x => some (vp x)) → DpAll K H (as.map V.ref) (ps.map dp)
  | [], [], _ => .nil
  | [], _ :: _, h => by cases h
  | _ :: _, [], h => by cases h
  | a :: as, x :: ps, h => by
    obtain ⟨h1, h2⟩ := List.cons.inj h
    exact .cons (.tup (SqT.of h1) (.cons (.int _) (.cons (.int _) .nil))) (dp_all as ps h2)
theorem dp_any (ps : List (Nat × Nat)) (x : Nat × Nat) : ((ps.map dp).any fun e => PyData.eqv e (dp x)) = ps.contains x := by
  rw [List.any_map]
  induction ps with
  | nil => rfl
  | cons y ps ih =>
    rw [List.any_cons, List.contains_cons, ih]
    show (PyData.eqv (dp y) (dp x) || _) = _
    rw [dp_eqv, show (y == x) = (x == y) from Bool.eq_iff_iff.mpr (by rw [beq_iff_eq, beq_iff_eq]; exact eq_comm)]
theorem maps_same {H H1 : Hp} (k : Same H H1) : ∀ (as : List Addr) (ps : List (Nat × Nat)), as.map H = (ps.map fun x => some (vp x)) → as.map H1 = (ps.map fun x => some (vp x))
  | [], _, h => h
  | _ :: _, [], h => by cases h
  | a :: as, x :: ps, h => by
    obtain ⟨h1, h2⟩ := List.cons.inj h
    rw [List.map_cons, List.map_cons, k a _ h1, maps_same k as ps h2]
section
variable {P : Program} {w : World} {K : PySem.W.Frag} {mg : Str → Option Value} {base : Heap} {z : Ads}
/-! ### tell_pair -/
def spPair (C : Addr) : Sp := fun vs H Q _ => ∃ (a l : Addr) (i j : Nat) (t : Service) (ps : List (Nat × Nat)) (dx lp ls la lt : Addr) (as : List Addr), vs = [.ref a, .ref l, .int (i : Int), .int (j : Int)] ∧
  SvcAt C H a dx lp ls la lt t ∧ H l = some (.lst (as.map V.ref)) ∧ as.map H = (ps.map fun x => some (vp x)) ∧ ps.length ≤ 60 ∧
  (t.two ps i j < 0 → ∀ H1 p, Same H H1 → H1 p = none → Q (.ref p) (upd H1 p (.lst [.int (t.two ps i j)]))) ∧
  (t.two ps i j = 0 → ∀ H1 x p, Same H H1 → H1 x = some (vp (i, j)) → H x = none → (upd H1 l (.lst (as.map V.ref ++ [V.ref x]))) p = none → Q (.ref p) (upd (upd H1 l (.lst (as.map V.ref ++ [V.ref x]))) p (.lst [.int 0])))
theorem ok_Service_tell_pair (A : Alls K mg z) : FnOk P w K mg base CX0 1 z.f_Service_tell_pair z.d_Service_tell_pair ["self", "pairs", "street", "other"] (spPair z.C_Service) := by
  refine A.x_Service_tell_pair.fn.ok sc_Service_tell_pair (fun vs H Q E h => ?_) (fun cdv Ar outer s H vs Q E hr h => ?_)
  · obtain ⟨a, l, i, j, t, ps, dx, lp, ls, la, lt, as, rfl, _⟩ := h
    rfl
  · obtain ⟨a, l, i, j, t, ps, dx, lp, ls, la, lt, as, rfl, SA, hl, hps, hn, k1, k2⟩ := h
    refine ⟨_, (pss_cons (ps_if (pw_or (pt_cmpR op_ge (pv 2) (pe_callB call_len_seq (by rfl) A.b_len PySem.boot_len (pa_cons (pe_fld (pv 0) rfl) pa_nil)) (nomark _)) (pw_or1 (pt_cmpR op_ge (pv 3) (pe_callB call_len_seq (by rfl) A.b_len PySem.boot_len (pa_cons (pe_fld (pv 0) rfl) pa_nil)) (nomark _)))).pt
      (pss_one (ps_ret (pe_lst (pa_cons (pe_gl rfl A.g_NOT_THERE) pa_nil))))
      pss_nil)
    (pss_cons (ps_if (pw_or (pt_cmpR op_eq (pv 2) (pv 3) (nomark _)) (pw_or (pt_cmpR (op_in_dat (u66 hr)) (pe_tup (pa_cons (pv 2) (pa_cons (pv 3) pa_nil))) (pv 1) rfl) (pw_or1 (pt_cmpR (op_in_dat (u66 hr)) (pe_tup (pa_cons (pv 3) (pa_cons (pv 2) pa_nil))) (pv 1) rfl)))).pt
      (pss_one (ps_ret (pe_lst (pa_cons (pe_gl rfl A.g_SAME_OR_TOLD) pa_nil))))
      pss_nil)
    (pss_cons (ps_expr (pe_bm PySem.F.plainAttrs_list PySem.F.slot_list_append PySem.F.type_list_append mt_append (pv 1) (pa_cons (pe_tup (pa_cons (pv 2) (pa_cons (pv 3) pa_nil))) pa_nil)))
    (pss_one (ps_ret (pe_lst (pa_cons (pe_gl rfl A.g_DONE) pa_nil))))))), ?_⟩
    have r2 : (t.streets.length ≤ i ∨ t.streets.length ≤ j) → ∀ p, H p = none → Q (.ref p) (upd H p (.lst [.int (-2)])) := fun c p hp => by
      have e : t.two ps i j = -2 := by unfold Service.two; rw [if_pos c]
      have q := k1 (by rw [e]; decide) H p (Same.refl H) hp
      rw [e] at q
      exact q
    refine ⟨_, rfl, _, rfl, a, z.C_Service, dx, _, _, rfl, SA.obj, A.cl_Service, A.n_Service_streets, sf_s _ _ _ _, ls, _, rfl, .inl (SqL.of SA.st), _, _, rfl, rfl, _, rfl, ite2 (fun c => iteT ?_) (fun c => ?_)⟩
    · refine ⟨by show 1 ≤ sizeLine; decide, fun p hp => r2 (.inl ?_) p hp⟩
      have := of_decide_eq_true c
      rw [vn_len] at this
      omega
    have c1 : ¬ t.streets.length ≤ i := fun z => c (decide_eq_true (by rw [vn_len]; omega))
    refine ⟨_, rfl, _, rfl, a, z.C_Service, dx, _, _, rfl, SA.obj, A.cl_Service, A.n_Service_streets, sf_s _ _ _ _, ls, _, rfl, .inl (SqL.of SA.st), _, _, rfl, rfl, _, rfl, ite2 (fun c => ?_) (fun c => ?_)⟩
    · refine ⟨by show 1 ≤ sizeLine; decide, fun p hp => r2 (.inr ?_) p hp⟩
      have := of_decide_eq_true c
      rw [vn_len] at this
      omega
    have c2 : ¬ t.streets.length ≤ j := fun z => c (decide_eq_true (by rw [vn_len]; omega))
    have c12 : ¬ (t.streets.length ≤ i ∨ t.streets.length ≤ j) := fun z => z.elim c1 c2
    have r4 : (i = j ∨ ps.contains (i, j) = true ∨ ps.contains (j, i) = true) → ∀ H1 p, Same H H1 → H1 p = none → Q (.ref p) (upd H1 p (.lst [.int (-4)])) := fun c H1 p sm hp => by
      have e : t.two ps i j = -4 := by unfold Service.two; rw [if_neg c12, if_pos c]
      have q := k1 (by rw [e]; decide) H1 p sm hp
      rw [e] at q
      exact q
    refine ⟨_, rfl, _, rfl, rfl, _, rfl, ite2 (fun c => iteT ?_) (fun c => ?_)⟩
    · refine ⟨by show 1 ≤ sizeLine; decide, fun p hp => r4 (.inl ?_) H p (Same.refl H) hp⟩
      have := of_decide_eq_true c
      injection this with z
      omega
    have c3 : ¬ i = j := fun z => c (decide_eq_true (by rw [z]))
    refine ⟨_, rfl, _, rfl, by show 2 ≤ sizeLine; decide, fun x1 h1 => ?_⟩
    have s1 : Same H (upd H x1 (vp (i, j))) := same_new h1
    refine ⟨_, rfl, dp (i, j), ps.map dp, .tup (SqT.of upd_same) (.cons (.int _) (.cons (.int _) .nil)), .lst (SqL.of (s1 _ _ hl)) (dp_all as ps (maps_same s1 as ps hps)), dp_lay _, dp_lays _, dp_depth _, _, rfl, ite2 (fun c => iteT ?_) (fun c => ?_)⟩
    · rw [if_neg Bool.false_ne_true, dp_any] at c
      exact ⟨by show 1 ≤ sizeLine; decide, fun p hp => r4 (.inr (.inl c)) _ p s1 hp⟩
    have c4 : ¬ ps.contains (i, j) = true := fun z => c (by rw [if_neg Bool.false_ne_true, dp_any]; exact z)
    refine ⟨_, rfl, _, rfl, by show 2 ≤ sizeLine; decide, fun x2 h2 => ?_⟩
    have s2 : Same H (upd (upd H x1 (vp (i, j))) x2 (vp (j, i))) := s1.trans (same_new h2)
    refine ⟨_, rfl, dp (j, i), ps.map dp, .tup (SqT.of upd_same) (.cons (.int _) (.cons (.int _) .nil)), .lst (SqL.of (s2 _ _ hl)) (dp_all as ps (maps_same s2 as ps hps)), dp_lay _, dp_lays _, dp_depth _, _, rfl, ite2 (fun c => ?_) (fun c => ?_)⟩
    · rw [if_neg Bool.false_ne_true, dp_any] at c
      exact ⟨by show 1 ≤ sizeLine; decide, fun p hp => r4 (.inr (.inr c)) _ p s2 hp⟩
    have c5 : ¬ ps.contains (j, i) = true := fun z => c (by rw [if_neg Bool.false_ne_true, dp_any]; exact z)
    have e0 : t.two ps i j = 0 := by
      unfold Service.two
      rw [if_neg c12, if_neg (fun z => z.elim c3 (fun z => z.elim c4 c5))]
    have hlen : (as.map V.ref).length ≤ 60 := by
      have := congrArg List.length hps
      rw [List.length_map, List.length_map] at this
      rw [List.length_map]
      omega
    refine ⟨_, rfl, .inl ⟨rfl, _, SqL.of (s2 _ _ hl)⟩, _, rfl, _, rfl, by show 2 ≤ sizeLine; decide, fun x3 h3 => ?_⟩
    have s3 : Same H (upd (upd (upd H x1 (vp (i, j))) x2 (vp (j, i))) x3 (vp (i, j))) := s2.trans (same_new h3)
    refine ⟨l, _, _, rfl, rfl, s3 _ _ hl, size_ok (by omega), by show 1 ≤ sizeLine; decide, fun p hp => ?_⟩
    exact k2 e0 _ x3 p s3 upd_same (s2.free h3) hp
end

theorem SvcAt.upd_ap {C : Addr} {H : Hp} {a dx lp ls la lt x : Addr} {t : Service} {as : List Addr} {q : Nat × Nat} (h : SvcAt C H a dx lp ls la lt t) (e : H la = some (.lst (as.map V.ref))) (f : as.map H = t.apart.map fun x => some (vp x))
    (hx : H x = some (vp q)) : SvcAt C (upd H la (.lst (as.map V.ref ++ [V.ref x]))) a dx lp ls la lt { t with apart := t.apart ++ [q] } := by
  have na : a ≠ la := ne_of h.obj e (by intro z; cases z)
  have k : Keep [la] H (upd H la (.lst (as.map V.ref ++ [V.ref x]))) := Keep.refl.set List.mem_cons_self
  have nt : ∀ b y, H b = some (vp y) → b ∉ [la] := fun b y e' m => by
    have : b = la := by simpa using m
    rw [this, e] at e'
    cases e'
  exact ⟨(upd_ne na).trans h.obj, (upd_ne h.n5).trans h.sp, (upd_ne h.n1).trans h.st, PairsAt.push e f hx, h.tg.keep k (by simp; exact h.n3.symm) nt, h.n1, h.n2, h.n3, h.n4, h.n5, h.n6⟩
theorem SvcAt.upd_tg {C : Addr} {H : Hp} {a dx lp ls la lt x : Addr} {t : Service} {as : List Addr} {q : Nat × Nat} (h : SvcAt C H a dx lp ls la lt t) (e : H lt = some (.lst (as.map V.ref))) (f : as.map H = t.together.map fun x => some (vp x))
    (hx : H x = some (vp q)) : SvcAt C (upd H lt (.lst (as.map V.ref ++ [V.ref x]))) a dx lp ls la lt { t with together := t.together ++ [q] } := by
  have na : a ≠ lt := ne_of h.obj e (by intro z; cases z)
  have k : Keep [lt] H (upd H lt (.lst (as.map V.ref ++ [V.ref x]))) := Keep.refl.set List.mem_cons_self
  have nt : ∀ b y, H b = some (vp y) → b ∉ [lt] := fun b y e' m => by
    have : b = lt := by simpa using m
    rw [this, e] at e'
    cases e'
  exact ⟨(upd_ne na).trans h.obj, (upd_ne h.n6).trans h.sp, (upd_ne h.n2).trans h.st, h.ap.keep k (by simp; exact h.n3) nt, PairsAt.push e f hx, h.n1, h.n2, h.n3, h.n4, h.n5, h.n6⟩
theorem two_cases (t : Service) (ps : List (Nat × Nat)) (i j : Nat) : t.two ps i j < 0 ∨ t.two ps i j = 0 := by
  unfold Service.two
  split
  · exact .inl (by decide)
  · split
    · exact .inl (by decide)
    · exact .inr rfl
/-- four new objects, each put into an object's field in its turn -/
theorem four {H : Hp} {a l1 l2 l3 l4 : Addr} {o o1 o2 o3 o4 f1 f2 f3 f4 : HO} (hp : H a = some o) (h1 : H l1 = none) (h2 : upd (upd H l1 o1) a f1 l2 = none) (h3 : upd (upd (upd (upd H l1 o1) a f1) l2 o2) a f2 l3 = none)
    (h4 : upd (upd (upd (upd (upd (upd H l1 o1) a f1) l2 o2) a f2) l3 o3) a f3 l4 = none) :
    (l2 ≠ l3 ∧ l2 ≠ l4 ∧ l3 ≠ l4 ∧ l1 ≠ l2 ∧ l1 ≠ l3 ∧ l1 ≠ l4) ∧ (a ≠ l1 ∧ a ≠ l2 ∧ a ≠ l3 ∧ a ≠ l4) ∧ (H l2 = none ∧ H l3 = none ∧ H l4 = none) ∧
    (upd (upd (upd (upd (upd (upd (upd (upd H l1 o1) a f1) l2 o2) a f2) l3 o3) a f3) l4 o4) a f4 l1 = some o1 ∧ upd (upd (upd (upd (upd (upd (upd (upd H l1 o1) a f1) l2 o2) a f2) l3 o3) a f3) l4 o4) a f4 l2 = some o2 ∧
      upd (upd (upd (upd (upd (upd (upd (upd H l1 o1) a f1) l2 o2) a f2) l3 o3) a f3) l4 o4) a f4 l3 = some o3 ∧ upd (upd (upd (upd (upd (upd (upd (upd H l1 o1) a f1) l2 o2) a f2) l3 o3) a f3) l4 o4) a f4 l4 = some o4) ∧
    Keep [a] H (upd (upd (upd (upd (upd (upd (upd (upd H l1 o1) a f1) l2 o2) a f2) l3 o3) a f3) l4 o4) a f4) := by
  have n1 : a ≠ l1 := ne_of_none hp h1
  have n2 : a ≠ l2 := ne_of_none upd_same h2
  have m2 : l1 ≠ l2 := ne_of_none ((upd_ne n1.symm).trans upd_same) h2
  have z2 : H l2 = none := by rw [upd_ne n2.symm, upd_ne m2.symm] at h2; exact h2
  have n3 : a ≠ l3 := ne_of_none upd_same h3
  have m3 : l2 ≠ l3 := ne_of_none ((upd_ne n2.symm).trans upd_same) h3
  have k3 : l1 ≠ l3 := fun e => by subst e; rw [upd_ne n1.symm, upd_ne m2, upd_ne n1.symm, upd_same] at h3; cases h3
  have z3 : H l3 = none := by rw [upd_ne n3.symm, upd_ne m3.symm, upd_ne n3.symm, upd_ne k3.symm] at h3; exact h3
  have n4 : a ≠ l4 := ne_of_none upd_same h4
  have m4 : l3 ≠ l4 := ne_of_none ((upd_ne n3.symm).trans upd_same) h4
  have k4 : l2 ≠ l4 := fun e => by subst e; rw [upd_ne n2.symm, upd_ne m3, upd_ne n2.symm, upd_same] at h4; cases h4
  have j4 : l1 ≠ l4 := fun e => by subst e; rw [upd_ne n1.symm, upd_ne k3, upd_ne n1.symm, upd_ne m2, upd_ne n1.symm, upd_same] at h4; cases h4
  have z4 : H l4 = none := by rw [upd_ne n4.symm, upd_ne m4.symm, upd_ne n4.symm, upd_ne k4.symm, upd_ne n4.symm, upd_ne j4.symm] at h4; exact h4
  refine ⟨⟨m3, k4, m4, m2, k3, j4⟩, ⟨n1, n2, n3, n4⟩, ⟨z2, z3, z4⟩, ⟨?_, ?_, ?_, ?_⟩, ?_⟩
  · rw [upd_ne n1.symm, upd_ne j4, upd_ne n1.symm, upd_ne k3, upd_ne n1.symm, upd_ne m2, upd_ne n1.symm, upd_same]
  · rw [upd_ne n2.symm, upd_ne k4, upd_ne n2.symm, upd_ne m3, upd_ne n2.symm, upd_same]
  · rw [upd_ne n3.symm, upd_ne m4, upd_ne n3.symm, upd_same]
  · rw [upd_ne n4.symm, upd_same]
  · intro b o e hb
    have nb : b ≠ a := fun z => hb (by rw [z]; exact List.mem_cons_self)
    rw [upd_ne nb, upd_ne (ne_of_none e z4), upd_ne nb, upd_ne (ne_of_none e z3), upd_ne nb, upd_ne (ne_of_none e z2), upd_ne nb, upd_ne (ne_of_none e h1)]
    exact e
theorem yes_ok {σ : L2.St} {H : Hp} {A B : Hp → Prop} (h : A H) : tYes σ H (fun b H3 => if b = true then A H3 else B H3) := by
  show if true = true then A H else B H
  exact iteT h
theorem take_snoc {α : Type} : ∀ {l : List α} {i : Nat} {x : α}, l[i]? = some x → l.take (i + 1) = l.take i ++ [x]
  | [], i, x, h => by simp at h
  | a :: l, 0, x, h => by
    have e : a = x := Option.some.inj h
    subst e
    rfl
  | a :: l, i + 1, x, h => by
    have ih := take_snoc (l := l) (i := i) (x := x) h
    show a :: l.take (i + 1) = a :: l.take i ++ [x]
    rw [ih]
    rfl
theorem vn_at {ns : List Nat} {i : Nat} {x : V} (h : (vn ns)[i]? = some x) : ∃ n : Nat, ns[i]? = some n ∧ x = V.int (n : Int) := by
  unfold vn at h
  rw [List.getElem?_map] at h
  cases e : ns[i]? with
  | none => rw [e] at h; cases h
  | some n => rw [e] at h; exact ⟨n, rfl, (Option.some.inj h).symm⟩
theorem all_isM (ns : List Nat) : ((ns.map fun (n : Nat) => isM (n : Int)).all id) = ns.all fun n => decide (1 ≤ n) && decide (n ≤ 1000) := by
  induction ns with
  | nil => rfl
  | cons n ns ih =>
    rw [List.map_cons, List.all_cons, List.all_cons, ih, ← isM_nat]
    rfl
section
variable {P : Program} {w : World} {K : PySem.W.Frag} {mg : Str → Option Value} {base : Heap} {z : Ads}
/-! ### tell_apart, tell_together -/
def spTell (C : Addr) (mk : Nat → Nat → Call) : Sp := fun vs H Q _ => ∃ (a : Addr) (i j : Nat) (t : Service) (F : List Addr), vs = [.ref a, .int (i : Int), .int (j : Int)] ∧ Svc C H a t F ∧ t.apart.length ≤ 60 ∧ t.together.length ≤ 60 ∧ Does C t (mk i j) a F H Q
theorem ok_Service_tell_apart (A : Alls K mg z) : FnOk P w K mg base CX0 2 z.f_Service_tell_apart z.d_Service_tell_apart ["self", "street", "other"] (spTell z.C_Service .apart) := by
  have G : FnOk P w K mg base CX0 1 z.f_Service_tell_pair z.d_Service_tell_pair ["self", "pairs", "street", "other"] (spPair z.C_Service) := ok_Service_tell_pair A
  refine A.x_Service_tell_apart.fn.ok sc_Service_tell_apart (fun vs H Q E h => ?_) (fun cdv Ar outer s H vs Q E hr h => ?_)
  · obtain ⟨a, i, j, t, F, rfl, _⟩ := h
    rfl
  · obtain ⟨a, i, j, t, F, rfl, S, ha, ht, k⟩ := h
    obtain ⟨dx, lp, ls, la, lt, SA, eF⟩ := id S
    obtain ⟨as, e1, e2⟩ := SA.ap
    refine ⟨_, (pss_one (ps_ret (pe_meth (pv 0) A.cl_Service A.x_Service_tell_pair.mt G (hr.mono (by decide)) A.x_Service_tell_pair.b .nil pass0 (pa_cons (pe_fld (pv 0) rfl) (pa_cons (pv 1) (pa_cons (pv 2) pa_nil)))))), ?_⟩
    refine ⟨_, rfl, a, dx, _, rfl, SA.obj, rfl, _, rfl, a, z.C_Service, dx, _, _, rfl, SA.obj, A.cl_Service, A.n_Service_apart_pairs, sf_a _ _ _ _, _, rfl, _, rfl, ?_⟩
    refine ⟨a, la, i, j, t, t.apart, dx, lp, ls, la, lt, as, rfl, SA, e1, e2, ha, fun c H1 p sm hp => ?_, fun c H1 x p sm hx nx hp => ?_⟩
    · have e : step t (.apart i j) = (t, Si74.ok (t.two t.apart i j)) := if_pos c
      have q := k.still S sm (by rw [e]) hp
      rw [e] at q
      exact q
    · have e : step t (.apart i j) = ({ t with apart := t.apart ++ [(i, j)] }, Si74.ok 0) := if_neg (by rw [c]; decide)
      have S1 : SvcAt z.C_Service (upd H1 la (.lst (as.map V.ref ++ [V.ref x]))) a dx lp ls la lt (step t (.apart i j)).1 := by
        rw [e]
        exact (SA.same sm).upd_ap (sm _ _ e1) (maps_same sm _ _ e2) hx
      have np : H p = none := by
        have n1 : p ≠ la := fun z => by rw [z, upd_same] at hp; cases hp
        rw [upd_ne n1] at hp
        exact sm.free hp
      refine k _ F p ?_ ⟨dx, lp, ls, la, lt, S1.same (same_new hp), eF⟩ (fun b hb => .inl hb) np (S.not_new np) ?_
      · exact ((Keep.of_same sm).set (by rw [eF]; simp)).new hp
      · rw [upd_same, e]
        rfl
theorem ok_Service_tell_together (A : Alls K mg z) : FnOk P w K mg base CX0 2 z.f_Service_tell_together z.d_Service_tell_together ["self", "street", "other"] (spTell z.C_Service .together) := by
  have G : FnOk P w K mg base CX0 1 z.f_Service_tell_pair z.d_Service_tell_pair ["self", "pairs", "street", "other"] (spPair z.C_Service) := ok_Service_tell_pair A
  refine A.x_Service_tell_together.fn.ok sc_Service_tell_together (fun vs H Q E h => ?_) (fun cdv Ar outer s H vs Q E hr h => ?_)
  · obtain ⟨a, i, j, t, F, rfl, _⟩ := h
    rfl
  · obtain ⟨a, i, j, t, F, rfl, S, ha, ht, k⟩ := h
    obtain ⟨dx, lp, ls, la, lt, SA, eF⟩ := id S
    obtain ⟨as, e1, e2⟩ := SA.tg
    refine ⟨_, (pss_one (ps_ret (pe_meth (pv 0) A.cl_Service A.x_Service_tell_pair.mt G (hr.mono (by decide)) A.x_Service_tell_pair.b .nil pass0 (pa_cons (pe_fld (pv 0) rfl) (pa_cons (pv 1) (pa_cons (pv 2) pa_nil)))))), ?_⟩
    refine ⟨_, rfl, a, dx, _, rfl, SA.obj, rfl, _, rfl, a, z.C_Service, dx, _, _, rfl, SA.obj, A.cl_Service, A.n_Service_together_pairs, sf_t _ _ _ _, _, rfl, _, rfl, ?_⟩
    refine ⟨a, lt, i, j, t, t.together, dx, lp, ls, la, lt, as, rfl, SA, e1, e2, ht, fun c H1 p sm hp => ?_, fun c H1 x p sm hx nx hp => ?_⟩
    · have e : step t (.together i j) = (t, Si74.ok (t.two t.together i j)) := if_pos c
      have q := k.still S sm (by rw [e]) hp
      rw [e] at q
      exact q
    · have e : step t (.together i j) = ({ t with together := t.together ++ [(i, j)] }, Si74.ok 0) := if_neg (by rw [c]; decide)
      have S1 : SvcAt z.C_Service (upd H1 lt (.lst (as.map V.ref ++ [V.ref x]))) a dx lp ls la lt (step t (.together i j)).1 := by
        rw [e]
        exact (SA.same sm).upd_tg (sm _ _ e1) (maps_same sm _ _ e2) hx
      have np : H p = none := by
        have n1 : p ≠ lt := fun z => by rw [z, upd_same] at hp; cases hp
        rw [upd_ne n1] at hp
        exact sm.free hp
      refine k _ F p ?_ ⟨dx, lp, ls, la, lt, S1.same (same_new hp), eF⟩ (fun b hb => .inl hb) np (S.not_new np) ?_
      · exact ((Keep.of_same sm).set (by rw [eF]; simp)).new hp
      · rw [upd_same, e]
        rfl
/-! ### begin -/
def spBegin (K : PySem.W.Frag) (C : Addr) : Sp := fun vs H Q _ => ∃ (a l : Addr) (ns : List Nat) (t : Service) (F : List Addr), vs = [.ref a, .ref l] ∧ SqL K H l (vn ns) ∧ ns.length ≤ 4 ∧ Svc C H a t F ∧ Does C t (.begins ns) a F H Q
theorem ok_Service_begin (A : Alls K mg z) : FnOk P w K mg base CX0 2 z.f_Service_begin z.d_Service_begin ["self", "ploughs"] (spBegin K z.C_Service) := by
  have G_is_metres : FnOk P w K mg base CX0 1 z.f_is_metres z.d_is_metres ["number"] spMetres := ok_is_metres A
  refine A.x_Service_begin.fn.ok sc_Service_begin (fun vs H Q E h => ?_) (fun cdv Ar outer s H vs Q E hr h => ?_)
  · obtain ⟨a, l, ns, t, F, rfl, _⟩ := h
    rfl
  · obtain ⟨a, l, ns, t, F, rfl, hl, hn, S, k⟩ := h
    refine ⟨_, (pss_cons (ps_if (pt_not (pt_chain op_le op_le pe_int (pe_callB call_len_seq (by rfl) A.b_len PySem.boot_len (pa_cons (pv 1) pa_nil)) (pe_gl rfl A.g_MOST_PLOUGHS)))
      (pss_one (ps_ret (pe_lst (pa_cons (pe_gl rfl A.g_WRONG_NUMBER) pa_nil))))
      pss_nil)
    (pss_cons (ps_if (pt_not (pt_val (pe_callB (call_all rfl) (by rfl) A.b_all bt_all (pa_cons (pe_lc (own := [("metres", 2)]) rfl sc_Service_begin.nd (pi_list (pv 1)) (blkOk_by (N := ["self", "ploughs", "metres"]) (sc := defScope s_Service_begin) (by decide +kernel)) (fun _ _ _ _ _ => (pg_name (i := 2) sc_Service_begin.nd rfl (Or.inl rfl))) (fun _ _ _ _ _ => pts_nil) (fun _ _ _ _ _ => (pe_call G_is_metres (hr.mono (by decide)) rfl A.x_is_metres.m A.x_is_metres.k A.x_is_metres.b .nil pass0 (pa_cons (pv 2) pa_nil)))) pa_nil))))
      (pss_one (ps_ret (pe_lst (pa_cons (pe_gl rfl A.g_WRONG_NUMBER) pa_nil))))
      pss_nil)
    (pss_cons (ps_fld (pv 0) (pe_callTy call_list_of (by rfl) A.b_list bt_list (pa_cons (pv 1) pa_nil)) rfl)
    (pss_cons (ps_fld (pv 0) (pe_lst pa_nil) rfl)
    (pss_cons (ps_fld (pv 0) (pe_lst pa_nil) rfl)
    (pss_cons (ps_fld (pv 0) (pe_lst pa_nil) rfl)
    (pss_one (ps_ret (pe_lst (pa_cons (pe_gl rfl A.g_DONE) pa_nil)))))))))), ?_⟩
    have r1 : (ns.length < 1 ∨ 3 < ns.length ∨ (ns.all fun n => decide (1 ≤ n) && decide (n ≤ 1000)) = false) → ∀ H1 p, Same H H1 → H1 p = none → Q (.ref p) (upd H1 p (.lst [.int (-1)])) := fun c H1 p sm hp => by
      have e : step t (.begins ns) = (t, Si74.ok (-1)) := if_pos c
      have q := k.still S sm (by rw [e]) hp
      rw [e] at q
      exact q
    refine ⟨_, rfl, l, _, rfl, .inl hl, _, _, rfl, rfl, _, rfl, ite2 (fun c1 => ?_) (fun c1 => ?_)⟩
    rotate_left 1
    · refine ⟨_, rfl, iteT ⟨by show 1 ≤ sizeLine; decide, fun p hp => r1 (.inl ?_) H p (Same.refl H) hp⟩⟩
      rw [decide_eq_true_eq, vn_len] at c1
      omega
    refine ⟨_, _, rfl, rfl, _, rfl, ite2 (fun c2 => ?_) (fun c2 => ?_)⟩
    · refine ⟨by show 1 ≤ sizeLine; decide, fun p hp => r1 (.inr (.inl ?_)) H p (Same.refl H) hp⟩
      rw [Bool.not_eq_true', decide_eq_false_iff_not, vn_len] at c2
      omega
    have c3 : 1 ≤ ns.length ∧ ns.length ≤ 3 := by
      rw [decide_eq_true_eq, vn_len] at c1
      rw [Bool.not_eq_true', decide_eq_false_iff_not, vn_len] at c2
      omega
    refine ⟨_, rfl, l, rfl, ⟨_, hl⟩, fun dd hdd => lc_list (xs := vn ns) (fun i H' => H' = upd H dd (.lst ((ns.take i).map fun (n : Nat) => V.bl (isM (n : Int))))) rfl (fun i H' _ e => ?_) (fun i x H' hx e => ?_) (fun H' e => ?_)⟩
    · rw [e]
      exact (same_new hdd).seq hl
    · obtain ⟨n, hn', rfl⟩ := vn_at hx
      rw [e]
      refine ⟨rfl, yes_ok ?_⟩
      refine ⟨_, rfl, (n : Int), rfl, _, upd_same, size_ok ?_, ?_⟩
      · rw [List.length_map, List.length_take]
        omega
      · rw [upd_upd, take_snoc hn', List.map_append]
        rfl
    rw [vn_len, List.take_length] at e
    rw [e]
    have s1 : Same H (upd H dd (.lst (ns.map fun (n : Nat) => V.bl (isM (n : Int))))) := same_new hdd
    refine ⟨dd, ns.map fun (n : Nat) => isM (n : Int), rfl, ?_, _, rfl, ite2 (fun c4 => ?_) (fun c4 => ?_)⟩
    · rw [List.map_map]
      exact SqL.of upd_same
    · rw [all_isM, Bool.not_eq_true'] at c4
      exact ⟨by show 1 ≤ sizeLine; decide, fun p hp => r1 (.inr (.inr c4)) _ p s1 hp⟩
    have c5 : (ns.all fun n => decide (1 ≤ n) && decide (n ≤ 1000)) = true := by
      cases z : (ns.all fun n => decide (1 ≤ n) && decide (n ≤ 1000)) with
      | true => rfl
      | false => exact (c4 (by rw [all_isM, z]; rfl)).elim
    have e2 : step t (.begins ns) = (⟨ns, [], [], []⟩, Si74.ok 0) := if_neg (by
      rintro (z | z | z)
      · omega
      · exact absurd z (by show ¬ 3 < ns.length; omega)
      · exact Bool.false_ne_true (z.symm.trans c5))
    generalize upd H dd (.lst (ns.map fun (n : Nat) => V.bl (isM (n : Int)))) = H1 at s1 ⊢
    obtain ⟨dx, lp, ls, la, lt, SA, eF⟩ := id S
    have ha := s1 _ _ SA.obj
    refine ⟨_, rfl, l, _, rfl, .inl (s1.seq hl), fun l1 h1 => ?_⟩
    refine ⟨_, rfl, a, z.C_Service, dx, _, rfl, (upd_ne (ne_of_none ha h1)).trans ha, A.cl_Service, A.n_Service_ploughs, by show 4 < 1000; decide, ?_⟩
    refine ⟨by show 0 ≤ sizeLine; decide, fun l2 h2 => ?_⟩
    refine ⟨_, rfl, a, z.C_Service, dx, _, rfl, (upd_ne (ne_of_none upd_same h2)).trans upd_same, A.cl_Service, A.n_Service_streets, by show 4 < 1000; decide, ?_⟩
    refine ⟨by show 0 ≤ sizeLine; decide, fun l3 h3 => ?_⟩
    refine ⟨_, rfl, a, z.C_Service, dx, _, rfl, (upd_ne (ne_of_none upd_same h3)).trans upd_same, A.cl_Service, A.n_Service_apart_pairs, by show 4 < 1000; decide, ?_⟩
    refine ⟨by show 0 ≤ sizeLine; decide, fun l4 h4 => ?_⟩
    refine ⟨_, rfl, a, z.C_Service, dx, _, rfl, (upd_ne (ne_of_none upd_same h4)).trans upd_same, A.cl_Service, A.n_Service_together_pairs, by show 4 < 1000; decide, ?_⟩
    refine ⟨by show 1 ≤ sizeLine; decide, fun p hp => ?_⟩
    obtain ⟨⟨m3, k4, m4, m2, k3, j4⟩, ⟨n1, n2, n3, n4⟩, ⟨z2, z3, z4⟩, ⟨g1, g2, g3, g4⟩, kp⟩ := four (o4 := .lst []) (f4 := .ins z.C_Service dx (sf (.ref l1) (.ref l2) (.ref l3) (.ref l4))) ha h1 h2 h3 h4
    have fin : ∀ Hf : Hp, Hf a = some (.ins z.C_Service dx (sf (.ref l1) (.ref l2) (.ref l3) (.ref l4))) → Hf l1 = some (.lst (vn ns)) → Hf l2 = some (.lst []) → Hf l3 = some (.lst []) → Hf l4 = some (.lst []) → Keep [a] H1 Hf → Hf p = none →
        Q (.ref p) (upd Hf p (.lst [.int 0])) := by
      intro Hf g0 g1 g2 g3 g4 kp hp
      have S1 : SvcAt z.C_Service Hf a dx l1 l2 l3 l4 (step t (.begins ns)).1 := by
        rw [e2]
        exact ⟨g0, g1, g2, ⟨[], g3, rfl⟩, ⟨[], g4, rfl⟩, m3, k4, m4, m2, k3, j4⟩
      have pa : p ≠ a := fun z => by rw [z, g0] at hp; cases hp
      have np : H p = none := by
        cases z : H p with
        | none => rfl
        | some u =>
          have y := kp p u (s1 p u z) (by simp [pa])
          rw [hp] at y
          cases y
      have KK : Keep F H H1 := Keep.of_same s1
      refine k _ [a, l2, l3, l4, l1] p ?_ ⟨dx, l1, l2, l3, l4, S1.same (same_new hp), rfl⟩ ?_ np ?_ ?_
      · exact (KK.trans (kp.mono (by intro b hb; rw [eF]; simp only [List.mem_cons, List.not_mem_nil, or_false] at hb; rw [hb]; exact List.mem_cons_self))).new hp
      · intro b hb
        simp only [List.mem_cons, List.not_mem_nil, or_false] at hb
        rcases hb with rfl | rfl | rfl | rfl | rfl
        · exact .inl (by rw [eF]; exact List.mem_cons_self)
        · exact .inr (s1.free z2)
        · exact .inr (s1.free z3)
        · exact .inr (s1.free z4)
        · exact .inr (s1.free h1)
      · intro hb
        simp only [List.mem_cons, List.not_mem_nil, or_false] at hb
        rcases hb with z | z | z | z | z
        · exact pa z
        · exact ne_of_none g2 hp z.symm
        · exact ne_of_none g3 hp z.symm
        · exact ne_of_none g4 hp z.symm
        · exact ne_of_none g1 hp z.symm
      · rw [upd_same, e2]
        rfl
    exact fin _ upd_same g1 g2 g3 g4 kp hp
end

/-- the number j behind pre -/
theorem at_mid {pre l post : List Int} {j : Nat} {x z : Int} (h : l[j]? = some x) (e : z = ((pre.length + j : Nat) : Int)) : atI ((pre ++ (l ++ post)).map V.int) z = some (V.int x) := by
  refine at_of e ?_
  rw [List.getElem?_map, List.getElem?_append_right (Nat.le_add_right _ _), Nat.add_sub_cancel_left, List.getElem?_append_left (List.getElem?_eq_some_iff.mp h).1, h]
  rfl
theorem at_vals {l : List Int} {j : Nat} {x z : Int} (h : l[j]? = some x) (e : z = (j : Int)) : atI (l.map V.int) z = some (V.int x) := by
  refine at_of e ?_
  rw [List.getElem?_map, h]
  rfl
/-- a slice from the middle -/
theorem cut_mid {pre l post : List Int} {a b : Int} (ea : a = (pre.length : Int)) (eb : b = ((pre.length + l.length : Nat) : Int)) : cutV ((pre ++ (l ++ post)).map V.int) (some a) (some b) = l.map V.int := by
  unfold cutV
  rw [ea, eb, HT.sIx_nat, HT.sIx_nat, List.length_map, List.length_append, List.length_append, Nat.min_eq_left (by omega), Nat.min_eq_left (by omega), Nat.add_sub_cancel_left, List.map_append, List.map_append,
    List.drop_append_of_le_length (by rw [List.length_map]; exact Nat.le_refl _), List.drop_eq_nil_of_le (by rw [List.length_map]; exact Nat.le_refl _), List.nil_append,
    List.take_append_of_le_length (by rw [List.length_map]; exact Nat.le_refl _), List.take_of_length_le (by rw [List.length_map]; exact Nat.le_refl _)]
/-- a slice from a place to the end -/
theorem cut_end {l : List Int} (k : Nat) : cutV (l.map V.int) (some (k : Int)) none = (l.drop k).map V.int := by
  unfold cutV
  rw [HT.sIx_nat, HT.sIx_none, List.length_map, List.map_drop]
  by_cases h : k ≤ l.length
  · rw [Nat.min_eq_left h, List.take_of_length_le (by rw [List.length_drop, List.length_map]; exact Nat.le_refl _)]
  · rw [Nat.min_eq_right (by omega), List.drop_eq_nil_of_le (by rw [List.length_map]; exact Nat.le_refl _), List.take_nil, List.drop_eq_nil_of_le (by rw [List.length_map]; omega)]
section
variable {P : Program} {w : World} {K : PySem.W.Frag} {mg : Str → Option Value} {base : Heap} {z : Ads}
/-- a promise that is known of a smaller heap -/
theorem Does.later {C : Addr} {t : Service} {q : Call} {a : Addr} {F : List Addr} {H H1 : Hp} {Q : VK} (d : Does C t q a F H Q) (S : Svc C H a t F) (k : Same H H1) : Does C t q a F H1 Q :=
  fun H' F' p kp S' new np nF e => d H' F' p ((Keep.of_same k).trans kp) S' (fun b hb => (new b hb).imp id k.free) (k.free np) nF e
theorem svc_obj {C : Addr} {H : Hp} {a : Addr} {t : Service} {F : List Addr} (S : Svc C H a t F) : ∃ dx fs, H a = some (.ins C dx fs) ∧ ∀ m : Str, m ≠ "ploughs" → m ≠ "streets" → m ≠ "apart_pairs" → m ≠ "together_pairs" → fs.lookup m = none := by
  obtain ⟨dx, lp, ls, la, lt, SA, _⟩ := S
  refine ⟨dx, _, SA.obj, fun m h1 h2 h3 h4 => ?_⟩
  unfold sf
  simp only [List.lookup]
  rw [beq_eq_false_iff_ne.mpr h1, beq_eq_false_iff_ne.mpr h2, beq_eq_false_iff_ne.mpr h3, beq_eq_false_iff_ne.mpr h4]
end
end Pw
end
section
/-! Lists of rows in the heap; new lists; what a call gives that changes nothing. -/
set_option Elab.async false
set_option linter.all false
set_option maxRecDepth 100000
set_option maxHeartbeats 2000000
namespace Pw
open PySem PySem.Spec PyProof.Rows L2
open SR (Good enc run said after)
open Si74 (Service Call step)
theorem u64 {k : Nat} {A : Around} (hr : Room k A) : A.units + 64 < cLine := by have := hr.un; omega
theorem at_vn {l : List Nat} {j x : Nat} {z : Int} (h : l[j]? = some x) (e : z = (j : Int) := by rfl) : atI (vn l) z = some (V.int (x : Int)) := by
  refine at_of e ?_
  unfold vn
  rw [List.getElem?_map, h]
  rfl
theorem getD_at {l : List Nat} {i : Nat} (h : i < l.length) : l[i]? = some (l.getD i 0) := by
  rw [List.getD_eq_getElem?_getD, List.getElem?_eq_getElem h]
  rfl
theorem at_get {l : List Nat} {i : Nat} (h : i < l.length) : atI (vn l) (i : Int) = some (V.int (l.getD i 0 : Nat)) := at_vn (getD_at h)
theorem ix_of {n j : Nat} (h : j < n) : ixN n (j : Int) = some j := by
  unfold ixN
  rw [if_pos (Int.natCast_nonneg j), if_pos (by omega)]
  rfl
theorem vn_set (l : List Nat) (j x : Nat) : (vn l).set j (V.int (x : Int)) = vn (l.set j x) := by
  unfold vn
  rw [List.map_set]
theorem vn_rep (k : Nat) : (List.replicate k [V.int 0]).flatten = vn (List.replicate k 0) := by
  induction k with
  | zero => rfl
  | succ k ih =>
    rw [List.replicate_succ, List.flatten_cons, ih, List.replicate_succ]
    rfl
/-- a new list; all else is as it was -/
def New (H : Hp) (xs : List V) (Q : VK) : Prop := ∀ (H' : Hp) (p : Addr), Same H H' → H p = none → H' p = some (.lst xs) → Q (.ref p) H'
theorem New.of {H H1 : Hp} {xs : List V} {Q : VK} {p : Addr} (n : New H xs Q) (sm : Same H H1) (hp : H1 p = none) : Q (.ref p) (upd H1 p (.lst xs)) := n _ _ (sm.trans (same_new hp)) (sm.free hp) upd_same
/-- a value; all else is as it was -/
def Val (H : Hp) (v : V) (Q : VK) : Prop := ∀ H' : Hp, Same H H' → Q v H'
/-- a list that is new since H changes -/
theorem same_upd {H H1 : Hp} {l : Addr} {o : HO} (sm : Same H H1) (hl : H l = none) : Same H (upd H1 l o) := fun b u e => by
  rw [upd_ne (ne_of_none e hl)]
  exact sm b u e
/-- a call that changes nothing and gives a list that is new -/
theorem Does.give {C : Addr} {t : Service} {q : Call} {a : Addr} {F : List Addr} {H H1 : Hp} {Q : VK} {p : Addr} (d : Does C t q a F H Q) (S : Svc C H a t F) (k : Same H H1) (e : (step t q).1 = t) (hp : H p = none) (h1 : H1 p = some (.lst ((said (step t q).2).map V.int))) : Q (.ref p) H1 := by
  refine d _ F p (Keep.of_same k) ?_ (fun b hb => .inl hb) hp (S.not_new hp) h1
  rw [e]
  exact S.same k
/-! ### rows -/
/-- a list of rows stands at l; the rows are new since H0 -/
def RowsAt (H0 H : Hp) (l : Addr) (rs : List (List Nat)) : Prop := ∃ as : List Addr, l ∉ as ∧ (∀ b ∈ as, H0 b = none) ∧ H l = some (.lst (as.map V.ref)) ∧ as.map H = rs.map fun r => some (.lst (vn r))
theorem rows_same {H H1 : Hp} (k : Same H H1) : ∀ (as : List Addr) (rs : List (List Nat)), as.map H = (rs.map fun r => some (HO.lst (vn r))) → as.map H1 = rs.map fun r => some (.lst (vn r))
  | [], _, h => h
  | _ :: _, [], h => by cases h
  | a :: as, x :: rs, h => by
    obtain ⟨h1, h2⟩ := List.cons.inj h
    rw [List.map_cons, List.map_cons, k a _ h1, rows_same k as rs h2]
theorem RowsAt.same {H0 H H1 : Hp} {l : Addr} {rs : List (List Nat)} (h : RowsAt H0 H l rs) (k : Same H H1) : RowsAt H0 H1 l rs := by
  obtain ⟨as, n, fr, e, f⟩ := h
  exact ⟨as, n, fr, k _ _ e, rows_same k as rs f⟩
theorem RowsAt.base {H0 H00 H : Hp} {l : Addr} {rs : List (List Nat)} (h : RowsAt H0 H l rs) (k : Same H00 H0) : RowsAt H00 H l rs := by
  obtain ⟨as, n, fr, e, f⟩ := h
  exact ⟨as, n, fun b hb => k.free (fr b hb), e, f⟩
theorem map_upd {H : Hp} {l : Addr} {o : HO} {as : List Addr} (n : l ∉ as) : as.map (upd H l o) = as.map H := List.map_congr_left fun b hb => upd_ne (fun z => n (z ▸ hb))
theorem RowsAt.push {H0 H : Hp} {l x : Addr} {as : List Addr} {rs : List (List Nat)} {r : List Nat} (n : l ∉ as) (fr : ∀ b ∈ as, H0 b = none) (f : as.map H = rs.map fun r => some (.lst (vn r))) (hx : H x = some (.lst (vn r))) (nx : l ≠ x) (fx : H0 x = none) :
    RowsAt H0 (upd H l (.lst (as.map V.ref ++ [V.ref x]))) l (rs ++ [r]) := by
  refine ⟨as ++ [x], ?_, ?_, by rw [upd_same, List.map_append]; rfl, ?_⟩
  · intro m
    rcases List.mem_append.mp m with m | m
    · exact n m
    · exact nx (by simpa using m)
  · intro b hb
    rcases List.mem_append.mp hb with m | m
    · exact fr b m
    · have : b = x := by simpa using m
      rw [this]
      exact fx
  · rw [List.map_append, List.map_append, map_upd n, f]
    show _ ++ [upd H l _ x] = _
    rw [upd_ne (Ne.symm nx), hx]
    rfl
theorem rows_get {H : Hp} {as : List Addr} {rs : List (List Nat)} (f : as.map H = rs.map fun r => some (.lst (vn r))) {i : Nat} {v : V} (h : (as.map V.ref)[i]? = some v) : ∃ b r, v = .ref b ∧ b ∈ as ∧ rs[i]? = some r ∧ H b = some (.lst (vn r)) := by
  rw [List.getElem?_map] at h
  cases e : as[i]? with
  | none => rw [e] at h; cases h
  | some b =>
    rw [e] at h
    have g := congrArg (fun l => l[i]?) f
    rw [List.getElem?_map, List.getElem?_map, e] at g
    cases e2 : rs[i]? with
    | none => rw [e2] at g; cases g
    | some r =>
      rw [e2] at g
      exact ⟨b, r, (Option.some.inj h).symm, List.mem_of_getElem? e, rfl, Option.some.inj g⟩
theorem rows_count {H : Hp} {as : List Addr} {rs : List (List Nat)} (f : as.map H = rs.map fun r => some (HO.lst (vn r))) : as.length = rs.length := by
  have := congrArg List.length f
  rw [List.length_map, List.length_map] at this
  exact this
theorem rows_head {H : Hp} {as : List Addr} {r : List Nat} {rs : List (List Nat)} (f : as.map H = (r :: rs).map fun r => some (HO.lst (vn r))) : ∃ b, (as.map V.ref)[0]? = some (V.ref b) ∧ b ∈ as ∧ H b = some (.lst (vn r)) := by
  cases as with
  | nil => cases f
  | cons b as =>
    obtain ⟨h1, h2⟩ := List.cons.inj f
    exact ⟨b, rfl, List.mem_cons_self, h1⟩
theorem dp_rows {K : PySem.W.Frag} {H : Hp} : ∀ (as : List Addr) (rs : List (List Nat)), as.map H = (rs.map fun r => some (HO.lst (vn r))) → DpAll K H (as.map V.ref) ((rs.map Si74.ints).map di)
  | [], [], _ => .nil
  | [], _ :: _, h => by cases h
  | _ :: _, [], h => by cases h
  | a :: as, x :: rs, h => by
    obtain ⟨h1, h2⟩ := List.cons.inj h
    refine .cons (dp_ints (SqL.of ?_)) (dp_rows as rs h2)
    rw [← vn_ints]
    exact h1
theorem RowsAt.dp {K : PySem.W.Frag} {H0 H : Hp} {l : Addr} {rs : List (List Nat)} (h : RowsAt H0 H l rs) : Dp K H (.ref l) (dr (rs.map Si74.ints)) := by
  obtain ⟨as, n, _, e, f⟩ := h
  exact .lst (SqL.of e) (dp_rows as rs f)
/-- a new list of new rows; all else is as it was -/
def NewRows (H : Hp) (rs : List (List Nat)) (Q : VK) : Prop := ∀ (H' : Hp) (p : Addr), Same H H' → H p = none → RowsAt H H' p rs → Q (.ref p) H'
end Pw
end
section
/-! check, best, needs, plain and what they lean on: the small ones. -/
set_option Elab.async false
set_option linter.all false
set_option maxRecDepth 100000
set_option maxHeartbeats 2000000
namespace Pw
open PySem PySem.Spec PyProof.Rows L2
open SR (Good enc run said after)
open Si74 (Service Call step)
theorem less_int (a b c d : Nat) : decide ((a : Int) * (d : Int) < (c : Int) * (b : Int)) = Si74.less (a, b) (c, d) := by
  unfold Si74.less
  rw [Bool.eq_iff_iff, decide_eq_true_eq, decide_eq_true_eq]
  show (a : Int) * (d : Int) < (c : Int) * (b : Int) ↔ a * d < c * b
  rw [← Int.natCast_mul, ← Int.natCast_mul]
  exact Int.ofNat_lt
theorem lm_int {s a b : Nat} (ha : 1 ≤ a) : (if ((s : Int) * (b : Int) + (a : Int) - 1) / (a : Int) > 1 then ((s : Int) * (b : Int) + (a : Int) - 1) / (a : Int) else 1) = ((SR.lm s a b : Nat) : Int) := by
  have e : ((s : Int) * (b : Int) + (a : Int) - 1) / (a : Int) = (((s * b + a - 1) / a : Nat) : Int) := by
    rw [Int.natCast_ediv]
    congr 1
    rw [← Int.natCast_mul]
    omega
  rw [e]
  unfold SR.lm
  generalize (s * b + a - 1) / a = x
  split <;> omega
section
variable {P : Program} {w : World} {K : PySem.W.Frag} {mg : Str → Option Value} {base : Heap} {z : Ads}
/-! ### is_minutes -/
theorem ok_is_minutes (A : Alls K mg z) : FnOk P w K mg base CX0 1 z.f_is_minutes z.d_is_minutes ["number"] spMetres := by
  refine A.x_is_minutes.fn.ok sc_is_minutes (fun vs H Q E h => ?_) (fun cdv Ar outer s H vs Q E hr h => ?_)
  · obtain ⟨n, rfl, _⟩ := h
    rfl
  · obtain ⟨n, rfl, h⟩ := h
    refine ⟨_, pss_one (ps_ret (pe_chain op_le op_le pe_int (pv 0) (pe_gl rfl A.g_MOST_MINUTES))), ?_⟩
    refine ⟨_, rfl, _, _, rfl, rfl, _, rfl, ite2 (fun c => ?_) (fun c => ?_)⟩
    · refine ⟨_, _, rfl, rfl, ?_⟩
      rw [show isM n = decide (n ≤ 1000) by unfold isM; rw [c]; rfl] at h
      exact h
    · rw [show isM n = false by unfold isM; rw [Bool.eq_false_iff.mpr c]; rfl] at h
      exact h
/-! ### is_less -/
def spLess (K : PySem.W.Frag) : Sp := fun vs H Q _ => ∃ (p q : Addr) (a b c d : Nat), vs = [.ref p, .ref q] ∧ SqL K H p (vn [a, b]) ∧ SqL K H q (vn [c, d]) ∧ a < 1000000000 ∧ c < 1000000000 ∧ Q (.bl (Si74.less (a, b) (c, d))) H
theorem ok_is_less (A : Alls K mg z) : FnOk P w K mg base CX0 1 z.f_is_less z.d_is_less ["fraction", "other"] (spLess K) := by
  refine A.x_is_less.fn.ok sc_is_less (fun vs H Q E h => ?_) (fun cdv Ar outer s H vs Q E hr h => ?_)
  · obtain ⟨p, q, a, b, c, d, rfl, _⟩ := h
    rfl
  · obtain ⟨p, q, a, b, c, d, rfl, hp, hq, la, lc, k⟩ := h
    refine ⟨_, (pss_one (ps_ret (pe_cmpR op_lt (pe_op op_mul (pe_ix ix_list (pv 0) pe_int (fun _ _ => rfl)) (pe_ix ix_list (pv 1) pe_int (fun _ _ => rfl))) (pe_op op_mul (pe_ix ix_list (pv 1) pe_int (fun _ _ => rfl)) (pe_ix ix_list (pv 0) pe_int (fun _ _ => rfl))) (nomark _)))), ?_⟩
    refine ⟨_, rfl, p, _, _, _, rfl, rfl, hp, at_vn (j := 0) rfl, ?_⟩
    refine ⟨_, rfl, q, _, _, _, rfl, rfl, hq, at_vn (j := 1) rfl, ?_⟩
    refine ⟨_, _, rfl, rfl, .inl ⟨by omega, by omega⟩, ?_⟩
    refine ⟨_, rfl, q, _, _, _, rfl, rfl, hq, at_vn (j := 0) rfl, ?_⟩
    refine ⟨_, rfl, p, _, _, _, rfl, rfl, hp, at_vn (j := 1) rfl, ?_⟩
    refine ⟨_, _, rfl, rfl, .inl ⟨by omega, by omega⟩, _, _, rfl, rfl, ?_⟩
    show Q (.bl (decide ((a : Int) * (d : Int) < (c : Int) * (b : Int)))) H
    rw [less_int]
    exact k
/-! ### lowest_terms -/
def spLow (K : PySem.W.Frag) : Sp := fun vs H Q _ => ∃ (p : Addr) (a b : Nat), vs = [.ref p] ∧ SqL K H p (vn [a, b]) ∧ 0 < b ∧ b < 1000000 ∧ New H (vn (Si74.both (Si74.lowest (a, b)))) Q
theorem ok_lowest_terms (A : Alls K mg z) : FnOk P w K mg base CX0 1 z.f_lowest_terms z.d_lowest_terms ["fraction"] (spLow K) := by
  refine A.x_lowest_terms.fn.ok sc_lowest_terms (fun vs H Q E h => ?_) (fun cdv Ar outer s H vs Q E hr h => ?_)
  · obtain ⟨p, a, b, rfl, _⟩ := h
    rfl
  · obtain ⟨p, a, b, rfl, hp, b0, b1, k⟩ := h
    refine ⟨_, (pss_cons (ps_set (i := 1) sc_lowest_terms.nd rfl (Or.inl rfl) (pe_ix ix_list (pv 0) pe_int (fun _ _ => rfl)))
    (pss_cons (ps_set (i := 2) sc_lowest_terms.nd rfl (Or.inl rfl) (pe_ix ix_list (pv 0) pe_int (fun _ _ => rfl)))
    (pss_cons (ps_while PassesOwn.never (pt_cmpR op_gt (pv 2) pe_int (nomark _))
      (pss_cons (ps_set (i := 3) sc_lowest_terms.nd rfl (Or.inl rfl) (pv 1))
      (pss_cons (ps_set (i := 1) sc_lowest_terms.nd rfl (Or.inl rfl) (pv 2))
      (pss_one (ps_set (i := 2) sc_lowest_terms.nd rfl (Or.inl rfl) (pe_op op_mod (pv 3) (pv 2)))))))
    (pss_one (ps_ret (pe_lst (pa_cons (pe_op op_fdiv (pe_ix ix_list (pv 0) pe_int (fun _ _ => rfl)) (pv 1)) (pa_cons (pe_op op_fdiv (pe_ix ix_list (pv 0) pe_int (fun _ _ => rfl)) (pv 1)) pa_nil)))))))), ?_⟩
    refine ⟨_, rfl, p, _, _, _, rfl, rfl, hp, at_vn (j := 1) rfl, ?_⟩
    refine ⟨_, rfl, p, _, _, _, rfl, rfl, hp, at_vn (j := 0) rfl, ?_⟩
    refine ⟨fun m σ H' => ∃ (d r : Nat) (v3 : Option V), m = r ∧ σ = [some (.ref p), some (.int (d : Int)), some (.int (r : Int)), v3] ∧ H' = H ∧ 0 < d ∧ Nat.gcd r d = Nat.gcd a b, ⟨a, b, a, none, rfl, rfl, rfl, b0, rfl⟩, ?_⟩
    rintro m σ H' ⟨d, r, v3, rfl, rfl, rfl, d0, g⟩
    refine ⟨_, rfl, _, _, rfl, rfl, _, rfl, ite2 (fun c => ?_) (fun c => ?_)⟩
    · have r0 : 0 < m := by
        have := of_decide_eq_true c
        omega
      refine ⟨_, fun _ _ h => h, ?_⟩
      refine ⟨_, rfl, _, rfl, _, rfl, _, rfl, _, _, rfl, rfl, by show (0 : Int) < (m : Int); omega, ?_⟩
      refine ⟨d % m, Nat.mod_lt _ r0, m, d % m, some (.int (d : Int)), rfl, ?_, rfl, r0, ?_⟩
      · rw [Int.natCast_emod]
        rfl
      · rw [← g]
        exact (Nat.gcd_rec m d).symm
    · have r0 : m = 0 := by
        have := mt (fun h => decide_eq_true h) c
        omega
      subst r0
      rw [Nat.gcd_zero_left] at g
      have gb : d ≤ b := by
        rw [g]
        exact Nat.gcd_le_right a b0
      refine ⟨_, rfl, p, _, _, _, rfl, rfl, hp, at_vn (j := 0) rfl, _, rfl, _, _, rfl, rfl, ⟨by omega, by omega⟩, ?_⟩
      refine ⟨_, rfl, p, _, _, _, rfl, rfl, hp, at_vn (j := 1) rfl, _, rfl, _, _, rfl, rfl, ⟨by omega, by omega⟩, ?_⟩
      refine ⟨by show 2 ≤ sizeLine; decide, fun x hx => ?_⟩
      have q := k.of (Same.refl _) hx
      rw [SR.lowest_of b0, ← g] at q
      have e1 : (a : Int) / (d : Int) = ((a / d : Nat) : Int) := (Int.natCast_ediv a d).symm
      have e2 : (b : Int) / (d : Int) = ((b / d : Nat) : Int) := (Int.natCast_ediv b d).symm
      show Q (.ref x) (upd H' x (.lst [V.int ((a : Int) / (d : Int)), V.int ((b : Int) / (d : Int))]))
      rw [e1, e2]
      exact q
/-! ### least_metres -/
def spLeast : Sp := fun vs H Q _ => ∃ s a b : Nat, vs = [.int (s : Int), .int (a : Int), .int (b : Int)] ∧ 1 ≤ a ∧ a ≤ 1000 ∧ s < 1000000000 ∧ Q (.int ((SR.lm s a b : Nat) : Int)) H
theorem ok_least_metres (A : Alls K mg z) : FnOk P w K mg base CX0 1 z.f_least_metres z.d_least_metres ["share", "a", "b"] spLeast := by
  refine A.x_least_metres.fn.ok sc_least_metres (fun vs H Q E h => ?_) (fun cdv Ar outer st H vs Q E hr h => ?_)
  · obtain ⟨s, a, b, rfl, _⟩ := h
    rfl
  · obtain ⟨s, a, b, rfl, a1, a2, s1, k⟩ := h
    refine ⟨_, (pss_one (ps_ret (pe_callB (call_max2 rfl) (by rfl) A.b_max bt_max (pa_cons pe_int (pa_cons (pe_op op_fdiv (pe_op op_sub (pe_op op_add (pe_op op_mul (pv 0) (pv 2)) (pv 1)) pe_int) (pv 1)) pa_nil))))), ?_⟩
    refine ⟨_, rfl, _, rfl, _, _, rfl, rfl, .inl ⟨by omega, by omega⟩, _, rfl, _, _, rfl, rfl, _, _, rfl, rfl, _, rfl, _, _, rfl, rfl, ⟨by omega, by omega⟩, _, _, rfl, ?_⟩
    rw [lm_int a1]
    exact k
/-! ### is_plan -/
def spIsPlan (K : PySem.W.Frag) (C : Addr) : Sp := fun vs H Q _ => ∃ (a c : Addr) (l : List Nat) (t : Service) (F : List Addr), vs = [.ref a, .ref c] ∧ SqL K H c (vn l) ∧ l.length ≤ 8 ∧ Svc C H a t F ∧ Val H (.bl (t.told l)) Q
theorem ok_Service_is_plan (A : Alls K mg z) : FnOk P w K mg base CX0 1 z.f_Service_is_plan z.d_Service_is_plan ["self", "plan"] (spIsPlan K z.C_Service) := by
  refine A.x_Service_is_plan.fn.ok sc_Service_is_plan (fun vs H Q E h => ?_) (fun cdv Ar outer s H vs Q E hr h => ?_)
  · obtain ⟨a, c, l, t, F, rfl, _⟩ := h
    rfl
  · obtain ⟨a, c, l, t, F, rfl, hc, l8, S, k⟩ := h
    refine ⟨_, (pss_one (ps_ret (pe_and (pe_cmpR op_eq (pe_callB call_len_seq (by rfl) A.b_len bt_len (pa_cons (pv 1) pa_nil)) (pe_callB call_len_seq (by rfl) A.b_len bt_len (pa_cons (pe_fld (pv 0) rfl) pa_nil)) (nomark _)) (pe_one (pe_callB (call_all rfl) (by rfl) A.b_all bt_all (pa_cons (pe_lc (own := [("plough", 2)]) rfl sc_Service_is_plan.nd (pi_list (pv 1)) (blkOk_by (N := ["self", "plan", "plough"]) (sc := defScope s_Service_is_plan) (by decide +kernel)) (fun _ _ _ _ _ => (pg_name (i := 2) sc_Service_is_plan.nd rfl (Or.inl rfl))) (fun _ _ _ _ _ => pts_nil) (fun _ _ _ _ _ => (pe_cmpR op_lt (pv 2) (pe_callB (call_lenK K) (by rfl) A.b_len bt_len (pa_cons (pe_fldK K (pv 0) rfl) pa_nil)) (nomark _)))) pa_nil)))))), ?_⟩
    obtain ⟨dx, lp, ls, la, lt, SA, eF⟩ := id S
    refine ⟨_, rfl, c, _, rfl, .inl hc, _, rfl, a, z.C_Service, dx, _, _, rfl, SA.obj, A.cl_Service, A.n_Service_streets, sf_s _ _ _ _, ls, _, rfl, .inl (SqL.of SA.st), rfl, _, rfl, ite2 (fun c1 => ?_) (fun c1 => ?_)⟩
    rotate_left 1
    · have e : t.told l = false := by
        unfold Service.told
        have : (l.length == t.streets.length) = false := by
          rw [beq_eq_false_iff_ne]
          intro z
          apply c1
          rw [vn_len, vn_len, z]
          exact decide_eq_true rfl
        rw [this]
        rfl
      rw [e] at k
      exact k H (Same.refl H)
    have e1 : l.length = t.streets.length := by
      have := of_decide_eq_true c1
      have z : ((vn l).length : Int) = ((vn t.streets).length : Int) := by injection this
      rw [vn_len, vn_len] at z
      omega
    refine ⟨_, rfl, c, rfl, ⟨_, hc⟩, fun dd hdd => lc_list (xs := vn l) (fun i H' => H' = upd H dd (.lst ((l.take i).map fun (n : Nat) => V.bl (decide (n < t.speeds.length))))) rfl (fun i H' _ e => ?_) (fun i x H' hx e => ?_) (fun H' e => ?_)⟩
    · rw [e]
      exact (same_new hdd).seq hc
    · obtain ⟨n, hn', rfl⟩ := vn_at hx
      rw [e]
      have sm : Same H (upd H dd (.lst ((l.take i).map fun (n : Nat) => V.bl (decide (n < t.speeds.length))))) := same_new hdd
      refine ⟨rfl, yes_ok ?_⟩
      refine ⟨_, rfl, _, rfl, a, z.C_Service, dx, _, _, rfl, sm _ _ SA.obj, A.cl_Service, A.n_Service_ploughs, sf_p _ _ _ _, lp, _, rfl, .inl (SqL.of (sm _ _ SA.sp)), _, _, rfl, rfl, _, upd_same, size_ok ?_, ?_⟩
      · rw [List.length_map, List.length_take]
        omega
      · rw [upd_upd, take_snoc hn', List.map_append]
        have : decide ((n : Int) < ((vn t.speeds).length : Int)) = decide (n < t.speeds.length) := by
          rw [vn_len, Bool.eq_iff_iff, decide_eq_true_eq, decide_eq_true_eq]
          omega
        show upd H dd (.lst (_ ++ [V.bl (decide ((n : Int) < ((vn t.speeds).length : Int)))])) = _
        rw [this]
        rfl
    rw [vn_len, List.take_length] at e
    rw [e]
    refine ⟨dd, l.map fun (n : Nat) => decide (n < t.speeds.length), rfl, ?_, ?_⟩
    · rw [List.map_map]
      exact SqL.of upd_same
    have e2 : t.told l = (l.map fun (n : Nat) => decide (n < t.speeds.length)).all id := by
      unfold Service.told
      rw [e1, beq_self_eq_true, Bool.true_and, List.all_map]
      rfl
    rw [e2] at k
    exact k _ (same_new hdd)
end
end Pw
end
section
/-! check, best, needs, plain and what they lean on: the walks over a plan. -/
set_option Elab.async false
set_option linter.all false
set_option maxRecDepth 100000
set_option maxHeartbeats 2000000
namespace Pw
open PySem PySem.Spec PyProof.Rows L2
open SR (Good enc run said after)
open Si74 (Service Call step)
/-- a plan of the state t: a plough for each street -/
theorem find_at {α : Type} {p : α → Bool} {x : α} : ∀ {l : List α} {i : Nat}, (∀ y ∈ l.take i, p y = false) → l[i]? = some x → p x = true → l.find? p = some x
  | [], i, _, h, _ => by simp at h
  | a :: l, 0, _, h, hp => by
    have e : a = x := Option.some.inj h
    subst e
    exact List.find?_cons_of_pos hp
  | a :: l, i + 1, hn, h, hp => by
    rw [List.find?_cons_of_neg (by rw [hn a (by simp)]; decide)]
    exact find_at (fun y hy => hn y (by rw [List.take_succ_cons]; exact List.mem_cons_of_mem _ hy)) h hp
theorem find_no {α : Type} {p : α → Bool} {l : List α} (h : ∀ y ∈ l, p y = false) : l.find? p = none := by
  rw [List.find?_eq_none]
  intro y hy
  rw [h y hy]
  decide
theorem pairs_get {H : Hp} {as : List Addr} {ps : List (Nat × Nat)} (f : as.map H = ps.map fun x => some (vp x)) {i : Nat} {v : V} (h : (as.map V.ref)[i]? = some v) : ∃ b x, v = .ref b ∧ ps[i]? = some x ∧ H b = some (vp x) := by
  rw [List.getElem?_map] at h
  cases e : as[i]? with
  | none => rw [e] at h; cases h
  | some b =>
    rw [e] at h
    have g := congrArg (fun l => l[i]?) f
    rw [List.getElem?_map, List.getElem?_map, e] at g
    cases e2 : ps[i]? with
    | none => rw [e2] at g; cases g
    | some r =>
      rw [e2] at g
      exact ⟨b, r, (Option.some.inj h).symm, rfl, Option.some.inj g⟩
theorem pairs_len {H : Hp} {as : List Addr} {ps : List (Nat × Nat)} (f : as.map H = ps.map fun x => some (vp x)) : as.length = ps.length := by
  have := congrArg List.length f
  rw [List.length_map, List.length_map] at this
  exact this
section
variable {P : Program} {w : World} {K : PySem.W.Frag} {mg : Str → Option Value} {base : Heap} {z : Ads}
/-! ### why_not -/
def spWhy (K : PySem.W.Frag) (C : Addr) : Sp := fun vs H Q _ => ∃ (a c : Addr) (l : List Nat) (t : Service) (F : List Addr), vs = [.ref a, .ref c] ∧ SqL K H c (vn l) ∧ l.length = t.streets.length ∧ SR.Ok t ∧ Svc C H a t F ∧ New H ((SR.why t l).map V.int) Q
theorem ok_Service_why_not (A : Alls K mg z) : FnOk P w K mg base CX0 1 z.f_Service_why_not z.d_Service_why_not ["self", "plan"] (spWhy K z.C_Service) := by
  refine A.x_Service_why_not.fn.ok sc_Service_why_not (fun vs H Q E h => ?_) (fun cdv Ar outer s H vs Q E hr h => ?_)
  · obtain ⟨a, c, l, t, F, rfl, _⟩ := h
    rfl
  · obtain ⟨a, c, l, t, F, rfl, hc, hl, o, S, k⟩ := h
    refine ⟨_, (pss_cons (ps_for PassesOwn.never rfl (pi_list (pe_fld (pv 0) rfl)) (pg_tup rfl (pgs_cons (pg_name (i := 2) sc_Service_why_not.nd rfl (Or.inl rfl)) (pgs_cons (pg_name (i := 3) sc_Service_why_not.nd rfl (Or.inl rfl)) pgs_nil)))
      (pss_one (ps_if (pt_cmpR op_eq (pe_ix ix_list (pv 1) (pv 2) (fun _ _ => rfl)) (pe_ix ix_list (pv 1) (pv 3) (fun _ _ => rfl)) (nomark _))
        (pss_one (ps_ret (pe_lst (pa_cons (pe_gl rfl A.g_APART_BROKEN) (pa_cons (pv 2) (pa_cons (pv 3) pa_nil))))))
        pss_nil)))
    (pss_cons (ps_for PassesOwn.never rfl (pi_list (pe_fld (pv 0) rfl)) (pg_tup rfl (pgs_cons (pg_name (i := 2) sc_Service_why_not.nd rfl (Or.inl rfl)) (pgs_cons (pg_name (i := 3) sc_Service_why_not.nd rfl (Or.inl rfl)) pgs_nil)))
      (pss_one (ps_if (pt_cmpR op_ne (pe_ix ix_list (pv 1) (pv 2) (fun _ _ => rfl)) (pe_ix ix_list (pv 1) (pv 3) (fun _ _ => rfl)) (nomark _))
        (pss_one (ps_ret (pe_lst (pa_cons (pe_gl rfl A.g_TOGETHER_BROKEN) (pa_cons (pv 2) (pa_cons (pv 3) pa_nil))))))
        pss_nil)))
    (pss_one (ps_ret (pe_lst pa_nil))))), ?_⟩
    obtain ⟨dx, lp, ls, la, lt, SA, eF⟩ := id S
    obtain ⟨as, e1, f1⟩ := SA.ap
    obtain ⟨bs, e2, f2⟩ := SA.tg
    refine ⟨_, rfl, a, z.C_Service, dx, _, _, rfl, SA.obj, A.cl_Service, A.n_Service_apart_pairs, sf_a _ _ _ _, la, rfl, ⟨_, SqL.of e1⟩, for_list (xs := as.map V.ref) (fun i σ H' => ∃ v2 v3, σ = [some (.ref a), some (.ref c), v2, v3] ∧ H' = H ∧ ∀ x ∈ t.apart.take i, (l.getD x.1 0 == l.getD x.2 0) = false) ⟨none, none, rfl, rfl, by simp⟩ ?_ ?_ ?_⟩
    · rintro i σ H' _ ⟨v2, v3, rfl, rfl, _⟩
      exact SqL.of e1
    · rintro i x σ H' hx ⟨v2, v3, rfl, rfl, hn⟩
      obtain ⟨b, y, rfl, hy, hb⟩ := pairs_get f1 hx
      have ym := o.ap y (List.mem_of_getElem? hy)
      refine ⟨b, _, rfl, SqT.of hb, rfl, _, _, rfl, _, _, rfl, rfl, ?_⟩
      refine ⟨_, rfl, _, rfl, c, _, _, _, rfl, rfl, hc, at_get (by omega), _, rfl, _, rfl, c, _, _, _, rfl, rfl, hc, at_get (by omega), rfl, _, rfl, ite2 (fun c1 => ?_) (fun c1 => ?_)⟩
      · refine ⟨_, rfl, _, rfl, by show 3 ≤ sizeLine; decide, fun p hp => ?_⟩
        have e : l.getD y.1 0 = l.getD y.2 0 := by
          have := of_decide_eq_true c1
          have z : ((l.getD y.1 0 : Nat) : Int) = ((l.getD y.2 0 : Nat) : Int) := by injection this
          omega
        have nr : t.near l = some y := find_at hn hy (by rw [e]; exact beq_self_eq_true _)
        have q := k.of (Same.refl _) hp
        have ew : SR.why t l = [-6, (y.1 : Int), (y.2 : Int)] := by unfold SR.why; rw [nr]
        rw [ew] at q
        exact q
      · refine ⟨_, _, rfl, rfl, fun x hx => ?_⟩
        rw [take_snoc hy] at hx
        rcases List.mem_append.mp hx with hx | hx
        · exact hn x hx
        · have ex : x = y := by simpa using hx
          subst ex
          rw [beq_eq_false_iff_ne]
          intro z
          apply c1
          rw [z]
          exact decide_eq_true rfl
    · rintro σ H' ⟨v2, v3, rfl, rfl, hn⟩
      have nr : t.near l = none := find_no fun y hy => hn y (by rw [List.take_of_length_le (by rw [List.length_map, pairs_len f1]; exact Nat.le_refl _)]; exact hy)
      refine ⟨_, rfl, a, z.C_Service, dx, _, _, rfl, SA.obj, A.cl_Service, A.n_Service_together_pairs, sf_t _ _ _ _, lt, rfl, ⟨_, SqL.of e2⟩, for_list (xs := bs.map V.ref) (fun i σ H'' => ∃ v2 v3, σ = [some (.ref a), some (.ref c), v2, v3] ∧ H'' = H' ∧ ∀ x ∈ t.together.take i, (l.getD x.1 0 != l.getD x.2 0) = false) ⟨_, _, rfl, rfl, by simp⟩ ?_ ?_ ?_⟩
      · rintro i σ H'' _ ⟨v2, v3, rfl, rfl, _⟩
        exact SqL.of e2
      · rintro i x σ H'' hx ⟨v2, v3, rfl, rfl, hn⟩
        obtain ⟨b, y, rfl, hy, hb⟩ := pairs_get f2 hx
        have ym := o.tg y (List.mem_of_getElem? hy)
        refine ⟨b, _, rfl, SqT.of hb, rfl, _, _, rfl, _, _, rfl, rfl, ?_⟩
        refine ⟨_, rfl, _, rfl, c, _, _, _, rfl, rfl, hc, at_get (by omega), _, rfl, _, rfl, c, _, _, _, rfl, rfl, hc, at_get (by omega), rfl, _, rfl, ite2 (fun c1 => ?_) (fun c1 => ?_)⟩
        · refine ⟨_, rfl, _, rfl, by show 3 ≤ sizeLine; decide, fun p hp => ?_⟩
          have e : l.getD y.1 0 ≠ l.getD y.2 0 := by
            intro z
            rw [z, decide_eq_true rfl] at c1
            cases c1
          have nr2 : t.far l = some y := find_at hn hy (by rw [bne_iff_ne]; exact e)
          have q := k.of (Same.refl _) hp
          have ew : SR.why t l = [-7, (y.1 : Int), (y.2 : Int)] := by unfold SR.why; rw [nr, nr2]
          rw [ew] at q
          exact q
        · refine ⟨_, _, rfl, rfl, fun x hx => ?_⟩
          rw [take_snoc hy] at hx
          rcases List.mem_append.mp hx with hx | hx
          · exact hn x hx
          · have ex : x = y := by simpa using hx
            subst ex
            have e : l.getD x.1 0 = l.getD x.2 0 := by
              cases d : decide (V.int ((l.getD x.1 0 : Nat) : Int) = V.int ((l.getD x.2 0 : Nat) : Int)) with
              | false => rw [d] at c1; exact (c1 rfl).elim
              | true =>
                have := of_decide_eq_true d
                have z : ((l.getD x.1 0 : Nat) : Int) = ((l.getD x.2 0 : Nat) : Int) := by injection this
                omega
            rw [e]
            exact bne_self_eq_false _
      · rintro σ H'' ⟨v2, v3, rfl, rfl, hn⟩
        have nr2 : t.far l = none := find_no fun y hy => hn y (by rw [List.take_of_length_le (by rw [List.length_map, pairs_len f2]; exact Nat.le_refl _)]; exact hy)
        refine ⟨by show 0 ≤ sizeLine; decide, fun p hp => ?_⟩
        have q := k.of (Same.refl _) hp
        have ew : SR.why t l = [] := by unfold SR.why; rw [nr, nr2]
        rw [ew] at q
        exact q
/-! ### can_be -/
def spCan (K : PySem.W.Frag) (C : Addr) : Sp := fun vs H Q _ => ∃ (a c : Addr) (l : List Nat) (t : Service) (F : List Addr), vs = [.ref a, .ref c] ∧ SqL K H c (vn l) ∧ l.length = t.streets.length ∧ SR.Ok t ∧ Svc C H a t F ∧ Val H (.bl (SR.why t l).isEmpty) Q
theorem ok_Service_can_be (A : Alls K mg z) : FnOk P w K mg base CX0 2 z.f_Service_can_be z.d_Service_can_be ["self", "plan"] (spCan K z.C_Service) := by
  have G_why : FnOk P w K mg base CX0 1 z.f_Service_why_not z.d_Service_why_not ["self", "plan"] (spWhy K z.C_Service) := ok_Service_why_not A
  refine A.x_Service_can_be.fn.ok sc_Service_can_be (fun vs H Q E h => ?_) (fun cdv Ar outer s H vs Q E hr h => ?_)
  · obtain ⟨a, c, l, t, F, rfl, _⟩ := h
    rfl
  · obtain ⟨a, c, l, t, F, rfl, hc, hl, o, S, k⟩ := h
    refine ⟨_, (pss_one (ps_ret (pe_cmpR (op_eqD (u64 hr)) (pe_meth (pv 0) A.cl_Service A.x_Service_why_not.mt G_why (hr.mono (by decide)) A.x_Service_why_not.b .nil pass0 (pa_cons (pv 1) pa_nil)) (pe_lst pa_nil) (nomark _)))), ?_⟩
    obtain ⟨dx, fs, hob, nf⟩ := svc_obj S
    refine ⟨_, rfl, a, dx, _, rfl, hob, nf _ (by decide +kernel) (by decide +kernel) (by decide +kernel) (by decide +kernel), _, rfl, ?_⟩
    refine ⟨a, c, l, t, F, rfl, hc, hl, o, S, fun H1 p sm np hp => ?_⟩
    refine ⟨by show 0 ≤ sizeLine; decide, fun x hx => ?_⟩
    have s2 : Same H1 (upd H1 x (.lst [])) := same_new hx
    refine ⟨di (SR.why t l), di [], dp_ints (SqL.of (s2 _ _ hp)), dp_ints (SqL.of upd_same), di_shaped _, di_shaped _, ?_⟩
    rw [di_nil]
    exact k _ (sm.trans s2)
/-! ### shares_of -/
def spShares (K : PySem.W.Frag) (C : Addr) : Sp := fun vs H Q _ => ∃ (a c : Addr) (l : List Nat) (t : Service) (F : List Addr), vs = [.ref a, .ref c] ∧ SqL K H c (vn l) ∧ t.told l = true ∧ SR.Ok t ∧ Svc C H a t F ∧ New H (vn (SR.shares t l)) Q
theorem ok_Service_shares_of (A : Alls K mg z) : FnOk P w K mg base CX0 1 z.f_Service_shares_of z.d_Service_shares_of ["self", "plan"] (spShares K z.C_Service) := by
  refine A.x_Service_shares_of.fn.ok sc_Service_shares_of (fun vs H Q E h => ?_) (fun cdv Ar outer s H vs Q E hr h => ?_)
  · obtain ⟨a, c, l, t, F, rfl, _⟩ := h
    rfl
  · obtain ⟨a, c, l, t, F, rfl, hc, ht, o, S, k⟩ := h
    refine ⟨_, (pss_cons (ps_set (i := 2) sc_Service_shares_of.nd rfl (Or.inl rfl) (pe_op op_rep (pe_lst (pa_cons pe_int pa_nil)) (pe_callB call_len_seq (by rfl) A.b_len bt_len (pa_cons (pe_fld (pv 0) rfl) pa_nil))))
    (pss_cons (ps_for PassesOwn.never rfl (pi_enum rfl A.b_enumerate (pa_cons (pv 1) pa_nil)) (pg_tup rfl (pgs_cons (pg_name (i := 3) sc_Service_shares_of.nd rfl (Or.inl rfl)) (pgs_cons (pg_name (i := 4) sc_Service_shares_of.nd rfl (Or.inl rfl)) pgs_nil)))
      (pss_one (ps_augS (pv 2) (pv 4) get_list (pe_ix ix_list (pe_fld (pv 0) rfl) (pv 3) (fun _ _ => rfl)) ip_add set_list)))
    (pss_one (ps_ret (pv 2))))), ?_⟩
    obtain ⟨dx, lp, ls, la, lt, SA, eF⟩ := id S
    obtain ⟨tl1, tl2⟩ := SR.told_parts ht
    have sp3 := o.sp3
    refine ⟨by show 1 ≤ sizeLine; decide, fun x1 h1 => ?_⟩
    have s1 : Same H (upd H x1 (.lst [V.int 0])) := same_new h1
    refine ⟨_, rfl, a, z.C_Service, dx, _, _, rfl, s1 _ _ SA.obj, A.cl_Service, A.n_Service_ploughs, sf_p _ _ _ _, lp, _, rfl, .inl (SqL.of (s1 _ _ SA.sp)), ?_⟩
    refine ⟨x1, _, _, rfl, rfl, upd_same, by omega, by rw [vn_len]; omega, ?_, fun lm hm => ?_⟩
    · rw [vn_len, Int.toNat_natCast]
      exact Nat.le_of_lt (size_ok (by show 1 * _ ≤ 1000; omega))
    rw [vn_len, Int.toNat_natCast, vn_rep, ← SR.shares_nil]
    have hm0 : H lm = none := s1.free hm
    have s2 : Same H (upd (upd H x1 (.lst [V.int 0])) lm (.lst (vn (SR.shares t [])))) := s1.trans (same_new hm)
    refine ⟨_, rfl, c, _, rfl, s2.seq hc, for_enum (xs := vn l) (fun i σ H' => ∃ v3 v4, σ = [some (.ref a), some (.ref c), some (.ref lm), v3, v4] ∧ Same H H' ∧ H' lm = some (.lst (vn (SR.shares t (l.take i))))) ⟨none, none, rfl, s2, upd_same⟩ ?_ ?_ ?_⟩
    · rintro i σ H' _ ⟨v3, v4, rfl, sm, _⟩
      exact sm.seq hc
    · rintro i x σ H' T hx ⟨v3, v4, rfl, sm, hlm⟩ hT
      obtain ⟨n, hn, rfl⟩ := vn_at hx
      have sT : Same H' (upd H' T (.tup [V.int (i : Nat), V.int (n : Int)])) := same_new hT
      have nlt : n < t.speeds.length := tl2 n (List.mem_of_getElem? hn)
      have ilt : i < l.length := (List.getElem?_eq_some_iff.mp hn).1
      refine ⟨T, _, rfl, SqT.of upd_same, rfl, _, _, rfl, _, _, rfl, rfl, ?_⟩
      refine ⟨_, rfl, _, rfl, lm, _, _, _, rfl, rfl, SqL.of (sT _ _ hlm), at_vn (SR.shares_at nlt), ?_⟩
      refine ⟨_, rfl, a, z.C_Service, dx, _, _, rfl, sT _ _ (sm _ _ SA.obj), A.cl_Service, A.n_Service_streets, sf_s _ _ _ _, _, rfl, ls, _, _, _, rfl, rfl, SqL.of (sT _ _ (sm _ _ SA.st)), at_get (by omega), ?_⟩
      refine ⟨_, _, rfl, rfl, lm, _, _, n, rfl, rfl, sT _ _ hlm, ix_of (by rw [vn_len, SR.shares_len]; exact nlt), ?_⟩
      refine ⟨_, _, rfl, same_upd (sm.trans sT) hm0, ?_⟩
      have e : l.take (i + 1) = l.take i ++ [n] := take_snoc hn
      rw [upd_same, e, SR.shares_snoc, ← vn_set, List.length_take, Nat.min_eq_left (Nat.le_of_lt ilt)]
      rfl
    · rintro σ H' ⟨v3, v4, rfl, sm, hlm⟩
      rw [vn_len, List.take_length] at hlm
      exact ⟨_, rfl, k _ _ sm hm0 hlm⟩
end
end Pw
end
section
/-! check, best, needs, plain and what they lean on: the walks over the ploughs, and all plans. -/
set_option Elab.async false
set_option linter.all false
set_option maxRecDepth 100000
set_option maxHeartbeats 2000000
namespace Pw
open PySem PySem.Spec PyProof.Rows L2
open SR (Good enc run said after)
open Si74 (Service Call step)
theorem speed_at {t : Service} {k : Nat} {x : Nat} (h : t.speeds[k]? = some x) : x = t.speed k := by
  unfold Service.speed
  rw [List.getD_eq_getElem?_getD, h]
  rfl
theorem speed_get {t : Service} {k : Nat} (h : k < t.speeds.length) : atI (vn t.speeds) (k : Int) = some (V.int (t.speed k : Nat)) := at_get h
theorem told_len {t : Service} (o : SR.Ok t) {l : List Nat} (h : t.told l = true) : l.length ≤ 8 := by
  have h1 := (SR.told_parts h).1
  have h2 := o.st6
  omega
section
variable {P : Program} {w : World} {K : PySem.W.Frag} {mg : Str → Option Value} {base : Heap} {z : Ads}
/-! ### all_clear -/
def spClear (K : PySem.W.Frag) (C : Addr) : Sp := fun vs H Q _ => ∃ (a c : Addr) (l : List Nat) (t : Service) (F : List Addr), vs = [.ref a, .ref c] ∧ SqL K H c (vn l) ∧ t.told l = true ∧ SR.Ok t ∧ Svc C H a t F ∧ New H (vn (Si74.both (SR.clr t l))) Q
theorem ok_Service_all_clear (A : Alls K mg z) : FnOk P w K mg base CX0 2 z.f_Service_all_clear z.d_Service_all_clear ["self", "plan"] (spClear K z.C_Service) := by
  have G_low : FnOk P w K mg base CX0 1 z.f_lowest_terms z.d_lowest_terms ["fraction"] (spLow K) := ok_lowest_terms A
  have G_sh : FnOk P w K mg base CX0 1 z.f_Service_shares_of z.d_Service_shares_of ["self", "plan"] (spShares K z.C_Service) := ok_Service_shares_of A
  have G_is_less : FnOk P w K mg base CX0 1 z.f_is_less z.d_is_less ["fraction", "other"] (spLess K) := ok_is_less A
  refine A.x_Service_all_clear.fn.ok sc_Service_all_clear (fun vs H Q E h => ?_) (fun cdv Ar outer s H vs Q E hr h => ?_)
  · obtain ⟨a, c, l, t, F, rfl, _⟩ := h
    rfl
  · obtain ⟨a, c, l, t, F, rfl, hc, ht, o, S, k⟩ := h
    refine ⟨_, (pss_cons (ps_set (i := 2) sc_Service_all_clear.nd rfl (Or.inl rfl) (pe_lst (pa_cons pe_int (pa_cons pe_int pa_nil))))
    (pss_cons (ps_for PassesOwn.never rfl (pi_zip rfl A.b_zip (pa_cons (pe_meth (pv 0) A.cl_Service A.x_Service_shares_of.mt G_sh (hr.mono (by decide)) A.x_Service_shares_of.b .nil pass0 (pa_cons (pv 1) pa_nil)) (pa_cons (pe_fld (pv 0) rfl) pa_nil))) (pg_tup rfl (pgs_cons (pg_name (i := 3) sc_Service_all_clear.nd rfl (Or.inl rfl)) (pgs_cons (pg_name (i := 4) sc_Service_all_clear.nd rfl (Or.inl rfl)) pgs_nil)))
      (pss_one (ps_if (pt_val (pe_call G_is_less (hr.mono (by decide)) rfl A.x_is_less.m A.x_is_less.k A.x_is_less.b .nil pass0 (pa_cons (pv 2) (pa_cons (pe_lst (pa_cons (pv 3) (pa_cons (pv 4) pa_nil))) pa_nil))))
        (pss_one (ps_set (i := 2) sc_Service_all_clear.nd rfl (Or.inl rfl) (pe_lst (pa_cons (pv 3) (pa_cons (pv 4) pa_nil)))))
        pss_nil)))
    (pss_one (ps_ret (pe_call G_low (hr.mono (by decide)) rfl A.x_lowest_terms.m A.x_lowest_terms.k A.x_lowest_terms.b .nil pass0 (pa_cons (pv 2) pa_nil)))))), ?_⟩
    have l8 := told_len o ht
    refine ⟨by show 2 ≤ sizeLine; decide, fun x0 h0 => ?_⟩
    have s0 : Same H (upd H x0 (.lst [V.int 0, V.int 1])) := same_new h0
    have S1 := S.same s0
    obtain ⟨dx, lp, ls, la, lt, SA, eF⟩ := id S
    refine ⟨_, rfl, a, dx, _, rfl, s0 _ _ SA.obj, rfl, _, rfl, ?_⟩
    refine ⟨a, c, l, t, F, rfl, s0.seq hc, ht, o, S1, fun H1 sh sm1 nsh hsh => ?_⟩
    have s1 : Same H H1 := s0.trans sm1
    refine ⟨_, rfl, a, z.C_Service, dx, _, _, rfl, s1 _ _ SA.obj, A.cl_Service, A.n_Service_ploughs, sf_p _ _ _ _, sh, lp, _, _, rfl, SqL.of hsh, SqL.of (s1 _ _ SA.sp), ?_⟩
    refine for_zip (xs := vn (SR.shares t l)) (ys := vn t.speeds) (by rw [vn_len, vn_len, SR.shares_len]) (fun i σ H' => ∃ x v3 v4, σ = [some (.ref a), some (.ref c), some (.ref x), v3, v4] ∧ Same H1 H' ∧ H' x = some (.lst (vn (Si74.both (SR.clearTo t l i))))) ⟨x0, none, none, rfl, Same.refl _, sm1 _ _ upd_same⟩ ?_ ?_ ?_
    · rintro i σ H' _ ⟨x, v3, v4, rfl, sm, _⟩
      exact ⟨SqL.of (sm _ _ hsh), SqL.of (sm _ _ (s1 _ _ SA.sp))⟩
    · rintro i u v σ H' T hu hv ⟨x, v3, v4, rfl, sm, hx⟩ hT
      obtain ⟨n, hn, rfl⟩ := vn_at hu
      obtain ⟨m, hm, rfl⟩ := vn_at hv
      have ilt : i < t.speeds.length := (List.getElem?_eq_some_iff.mp hm).1
      rw [SR.shares_at ilt] at hn
      have en : t.share l i = n := Option.some.inj hn
      subst en
      have em := speed_at hm
      subst em
      have b1 := SR.clearTo_in o l8 i (by omega)
      have b2 := SR.share_le o l i
      have sT : Same H' (upd H' T (.tup [V.int (t.share l i : Nat), V.int (t.speed i : Nat)])) := same_new hT
      refine ⟨T, _, rfl, SqT.of upd_same, rfl, _, _, rfl, _, _, rfl, rfl, ?_⟩
      refine ⟨_, rfl, _, rfl, _, rfl, by show 2 ≤ sizeLine; decide, fun y hy => ?_⟩
      have sy := sT.trans (same_new (o := .lst [V.int (t.share l i : Nat), V.int (t.speed i : Nat)]) hy)
      refine ⟨x, y, (SR.clearTo t l i).1, (SR.clearTo t l i).2, t.share l i, t.speed i, rfl, SqL.of (sy _ _ hx), SqL.of upd_same, by omega, by omega, _, rfl, ite2 (fun c1 => ?_) (fun c1 => ?_)⟩
      · refine ⟨_, rfl, _, rfl, by show 2 ≤ sizeLine; decide, fun y2 hy2 => ?_⟩
        refine ⟨y2, _, _, rfl, sm.trans (sy.trans (same_new hy2)), ?_⟩
        rw [upd_same, SR.clearTo_succ, if_pos c1]
        rfl
      · refine ⟨x, _, _, rfl, sm.trans sy, ?_⟩
        rw [SR.clearTo_succ, if_neg c1]
        exact sy _ _ hx
    · rintro σ H' ⟨x, v3, v4, rfl, sm, hx⟩
      rw [vn_len, SR.shares_len, SR.clearTo_all] at hx
      have b1 := SR.clearTo_in o l8 t.speeds.length (Nat.le_refl _)
      rw [SR.clearTo_all] at b1
      refine ⟨_, rfl, x, (t.clear l).1, (t.clear l).2, rfl, SqL.of hx, b1.2.1, by omega, fun H2 p sm2 np hp => ?_⟩
      exact k _ _ (s1.trans (sm.trans sm2)) ((s1.trans sm).free np) hp
/-! ### others_are_done -/
def spOthers (K : PySem.W.Frag) (C : Addr) : Sp := fun vs H Q _ => ∃ (a sh mi : Addr) (n u v : Nat) (l : List Nat) (t : Service) (F : List Addr), vs = [.ref a, .ref sh, .int (n : Int), .ref mi] ∧ SqL K H sh (vn (SR.shares t l)) ∧ SqL K H mi (vn [u, v]) ∧ u ≤ 1000 ∧ l.length ≤ 8 ∧ SR.Ok t ∧ Svc C H a t F ∧ Val H (.bl (SR.others t n (u, v) l t.speeds.length)) Q
theorem ok_Service_others_are_done (A : Alls K mg z) : FnOk P w K mg base CX0 2 z.f_Service_others_are_done z.d_Service_others_are_done ["self", "shares", "plough", "minutes"] (spOthers K z.C_Service) := by
  have G_is_less : FnOk P w K mg base CX0 1 z.f_is_less z.d_is_less ["fraction", "other"] (spLess K) := ok_is_less A
  refine A.x_Service_others_are_done.fn.ok sc_Service_others_are_done (fun vs H Q E h => ?_) (fun cdv Ar outer s H vs Q E hr h => ?_)
  · obtain ⟨a, sh, mi, n, u, v, l, t, F, rfl, _⟩ := h
    rfl
  · obtain ⟨a, sh, mi, n, u, v, l, t, F, rfl, hsh, hmi, u1, l8, o, S, k⟩ := h
    refine ⟨_, (pss_cons (ps_for PassesOwn.never rfl (pi_enum rfl A.b_enumerate (pa_cons (pe_fld (pv 0) rfl) pa_nil)) (pg_tup rfl (pgs_cons (pg_name (i := 4) sc_Service_others_are_done.nd rfl (Or.inl rfl)) (pgs_cons (pg_name (i := 5) sc_Service_others_are_done.nd rfl (Or.inl rfl)) pgs_nil)))
      (pss_one (ps_if (PW.pt (pw_and (pt_cmpR op_ne (pv 4) (pv 2) (nomark _)) (pw_and1 (pt_val (pe_call G_is_less (hr.mono (by decide)) rfl A.x_is_less.m A.x_is_less.k A.x_is_less.b .nil pass0 (pa_cons (pv 3) (pa_cons (pe_lst (pa_cons (pe_ix ix_list (pv 1) (pv 4) (fun _ _ => rfl)) (pa_cons (pv 5) pa_nil))) pa_nil)))))))
        (pss_one (ps_ret pe_bl))
        pss_nil)))
    (pss_one (ps_ret pe_bl))), ?_⟩
    obtain ⟨dx, lp, ls, la, lt, SA, eF⟩ := id S
    refine ⟨_, rfl, a, z.C_Service, dx, _, _, rfl, SA.obj, A.cl_Service, A.n_Service_ploughs, sf_p _ _ _ _, lp, _, rfl, SqL.of SA.sp, ?_⟩
    refine for_enum (xs := vn t.speeds) (fun i σ H' => ∃ v4 v5, σ = [some (.ref a), some (.ref sh), some (.int (n : Int)), some (.ref mi), v4, v5] ∧ Same H H' ∧ SR.others t n (u, v) l i = true) ⟨none, none, rfl, Same.refl _, rfl⟩ ?_ ?_ ?_
    · rintro i σ H' _ ⟨v4, v5, rfl, sm, _⟩
      exact SqL.of (sm _ _ SA.sp)
    · rintro i x σ H' T hx ⟨v4, v5, rfl, sm, ho⟩ hT
      obtain ⟨m, hm, rfl⟩ := vn_at hx
      have ilt : i < t.speeds.length := (List.getElem?_eq_some_iff.mp hm).1
      have em := speed_at hm
      subst em
      have b2 := SR.share_le o l i
      have sT : Same H' (upd H' T (.tup [V.int (i : Nat), V.int (t.speed i : Nat)])) := same_new hT
      have s2 : Same H _ := sm.trans sT
      refine ⟨T, _, rfl, SqT.of upd_same, rfl, _, _, rfl, _, _, rfl, rfl, ?_⟩
      refine ⟨_, rfl, _, rfl, rfl, _, rfl, ite2 (fun c1 => ?_) (fun c1 => iteF ?_)⟩
      · have ne : i ≠ n := by
          intro z
          rw [z, decide_eq_true rfl] at c1
          cases c1
        have nb : (i == n) = false := beq_eq_false_iff_ne.mpr ne
        refine ⟨_, rfl, _, rfl, _, rfl, sh, _, _, _, rfl, rfl, s2.seq hsh, at_vn (SR.shares_at ilt), _, rfl, by show 2 ≤ sizeLine; decide, fun y hy => ?_⟩
        have sy := same_new (o := .lst [V.int (t.share l i : Nat), V.int (t.speed i : Nat)]) hy
        refine ⟨mi, y, u, v, t.share l i, t.speed i, rfl, (s2.trans sy).seq hmi, SqL.of upd_same, by omega, by omega, _, rfl, ite2 (fun c2 => ?_) (fun c2 => ?_)⟩
        · have e : SR.others t n (u, v) l (i + 1) = false := by
            rw [SR.others_succ, nb, c2, Bool.not_true, Bool.or_false, Bool.and_false]
          have e2 := SR.others_false (show i + 1 ≤ t.speeds.length from ilt) e
          rw [e2] at k
          exact k _ (s2.trans sy)
        · refine ⟨_, _, rfl, s2.trans sy, ?_⟩
          rw [SR.others_succ, ho, Bool.eq_false_iff.mpr c2, Bool.not_false, Bool.or_true]
          rfl
      · have ee : i = n := by
          cases d : decide (V.int ((i : Nat) : Int) = V.int (n : Int)) with
          | false => rw [d] at c1; exact (c1 rfl).elim
          | true =>
            have := of_decide_eq_true d
            have z : ((i : Nat) : Int) = (n : Int) := by injection this
            omega
        refine ⟨_, _, rfl, s2, ?_⟩
        rw [SR.others_succ, ho, ee, beq_self_eq_true, Bool.true_or]
        rfl
    · rintro σ H' ⟨v4, v5, rfl, sm, ho⟩
      rw [vn_len] at ho
      rw [ho] at k
      exact k _ sm
/-! ### soonest_plough -/
def spSoonest (K : PySem.W.Frag) (C : Addr) : Sp := fun vs H Q _ => ∃ (a sh : Addr) (n : Nat) (l : List Nat) (t : Service) (F : List Addr), vs = [.ref a, .ref sh, .int (n : Int)] ∧ SqL K H sh (vn (SR.shares t l)) ∧ n = t.streets.getD l.length 0 ∧ n ≤ 1000 ∧ l.length ≤ 8 ∧ SR.Ok t ∧ Svc C H a t F ∧ Val H (.int (SR.pickTo t l t.speeds.length : Nat)) Q
theorem ok_Service_soonest_plough (A : Alls K mg z) : FnOk P w K mg base CX0 2 z.f_Service_soonest_plough z.d_Service_soonest_plough ["self", "shares", "long"] (spSoonest K z.C_Service) := by
  have G_is_less : FnOk P w K mg base CX0 1 z.f_is_less z.d_is_less ["fraction", "other"] (spLess K) := ok_is_less A
  refine A.x_Service_soonest_plough.fn.ok sc_Service_soonest_plough (fun vs H Q E h => ?_) (fun cdv Ar outer s H vs Q E hr h => ?_)
  · obtain ⟨a, sh, n, l, t, F, rfl, _⟩ := h
    rfl
  · obtain ⟨a, sh, n, l, t, F, rfl, hsh, hn, n1, l8, o, S, k⟩ := h
    refine ⟨_, (pss_cons (ps_set (i := 3) sc_Service_soonest_plough.nd rfl (Or.inl rfl) pe_int)
    (pss_cons (ps_for PassesOwn.never rfl (pi_enum rfl A.b_enumerate (pa_cons (pe_fld (pv 0) rfl) pa_nil)) (pg_tup rfl (pgs_cons (pg_name (i := 4) sc_Service_soonest_plough.nd rfl (Or.inl rfl)) (pgs_cons (pg_name (i := 5) sc_Service_soonest_plough.nd rfl (Or.inl rfl)) pgs_nil)))
      (pss_one (ps_if (pt_val (pe_call G_is_less (hr.mono (by decide)) rfl A.x_is_less.m A.x_is_less.k A.x_is_less.b .nil pass0 (pa_cons (pe_lst (pa_cons (pe_op op_add (pe_ix ix_list (pv 1) (pv 4) (fun _ _ => rfl)) (pv 2)) (pa_cons (pv 5) pa_nil))) (pa_cons (pe_lst (pa_cons (pe_op op_add (pe_ix ix_list (pv 1) (pv 3) (fun _ _ => rfl)) (pv 2)) (pa_cons (pe_ix ix_list (pe_fld (pv 0) rfl) (pv 3) (fun _ _ => rfl)) pa_nil))) pa_nil))))
        (pss_one (ps_set (i := 3) sc_Service_soonest_plough.nd rfl (Or.inl rfl) (pv 4)))
        pss_nil)))
    (pss_one (ps_ret (pv 3))))), ?_⟩
    obtain ⟨dx, lp, ls, la, lt, SA, eF⟩ := id S
    refine ⟨_, rfl, a, z.C_Service, dx, _, _, rfl, SA.obj, A.cl_Service, A.n_Service_ploughs, sf_p _ _ _ _, lp, _, rfl, SqL.of SA.sp, ?_⟩
    refine for_enum (xs := vn t.speeds) (fun i σ H' => ∃ v4 v5, σ = [some (.ref a), some (.ref sh), some (.int (n : Int)), some (.int (SR.pickTo t l i : Nat)), v4, v5] ∧ Same H H') ⟨none, none, rfl, Same.refl _⟩ ?_ ?_ ?_
    · rintro i σ H' _ ⟨v4, v5, rfl, sm⟩
      exact SqL.of (sm _ _ SA.sp)
    · rintro i x σ H' T hx ⟨v4, v5, rfl, sm⟩ hT
      obtain ⟨m, hm, rfl⟩ := vn_at hx
      have ilt : i < t.speeds.length := (List.getElem?_eq_some_iff.mp hm).1
      have em := speed_at hm
      subst em
      have plt := SR.pickTo_lt t l (show 0 < t.speeds.length by omega) i (by omega)
      have b2 := SR.share_le o l i
      have b3 := SR.share_le o l (SR.pickTo t l i)
      have sT : Same H' (upd H' T (.tup [V.int (i : Nat), V.int (t.speed i : Nat)])) := same_new hT
      have s2 : Same H _ := sm.trans sT
      refine ⟨T, _, rfl, SqT.of upd_same, rfl, _, _, rfl, _, _, rfl, rfl, ?_⟩
      refine ⟨_, rfl, _, rfl, sh, _, _, _, rfl, rfl, s2.seq hsh, at_vn (SR.shares_at ilt), _, rfl, _, _, rfl, rfl, _, rfl, by show 2 ≤ sizeLine; decide, fun y hy => ?_⟩
      have ea : ((t.share l i : Nat) : Int) + (n : Int) = ((t.share l i + n : Nat) : Int) := by omega
      have eb : ((t.share l (SR.pickTo t l i) : Nat) : Int) + (n : Int) = ((t.share l (SR.pickTo t l i) + n : Nat) : Int) := by omega
      have s3 := s2.trans (same_new (o := .lst [V.int ((t.share l i : Int) + (n : Int)), V.int (t.speed i : Nat)]) hy)
      refine ⟨_, rfl, _, rfl, sh, _, _, _, rfl, rfl, s3.seq hsh, at_vn (SR.shares_at plt), _, rfl, _, _, rfl, rfl, ?_⟩
      refine ⟨_, rfl, a, z.C_Service, dx, _, _, rfl, s3 _ _ SA.obj, A.cl_Service, A.n_Service_ploughs, sf_p _ _ _ _, _, rfl, lp, _, _, _, rfl, rfl, SqL.of (s3 _ _ SA.sp), speed_get plt, by show 2 ≤ sizeLine; decide, fun y2 hy2 => ?_⟩
      have sy2 := same_new (o := .lst [V.int ((t.share l (SR.pickTo t l i) : Int) + (n : Int)), V.int (t.speed (SR.pickTo t l i) : Nat)]) hy2
      have f1 : [V.int ((t.share l i : Int) + (n : Int)), V.int (t.speed i : Nat)] = vn [t.share l i + n, t.speed i] := by rw [ea]; rfl
      have f2 : [V.int ((t.share l (SR.pickTo t l i) : Int) + (n : Int)), V.int (t.speed (SR.pickTo t l i) : Nat)] = vn [t.share l (SR.pickTo t l i) + n, t.speed (SR.pickTo t l i)] := by rw [eb]; rfl
      have s4 := s3.trans sy2
      refine ⟨y, y2, t.share l i + n, t.speed i, t.share l (SR.pickTo t l i) + n, t.speed (SR.pickTo t l i), rfl, by rw [← f1]; exact SqL.of (sy2 _ _ upd_same), by rw [← f2]; exact SqL.of upd_same, by omega, by omega, _, rfl, ite2 (fun c1 => ?_) (fun c1 => ?_)⟩
      · refine ⟨_, rfl, some (.int (i : Nat)), some (.int (t.speed i : Nat)), ?_, s4⟩
        rw [hn] at c1
        rw [SR.pickTo_succ, if_pos c1]
        rfl
      · refine ⟨some (.int (i : Nat)), some (.int (t.speed i : Nat)), ?_, s4⟩
        rw [hn] at c1
        rw [SR.pickTo_succ, if_neg c1]
        rfl
    · rintro σ H' ⟨v4, v5, rfl, sm⟩
      rw [vn_len]
      exact ⟨_, rfl, k _ sm⟩
/-! ### street_by_street -/
def spBy (C : Addr) : Sp := fun vs H Q _ => ∃ (a : Addr) (t : Service) (F : List Addr), vs = [.ref a] ∧ SR.Ok t ∧ Svc C H a t F ∧ New H (vn t.plain) Q
theorem ok_Service_street_by_street (A : Alls K mg z) : FnOk P w K mg base CX0 3 z.f_Service_street_by_street z.d_Service_street_by_street ["self"] (spBy z.C_Service) := by
  have G_so : FnOk P w K mg base CX0 2 z.f_Service_soonest_plough z.d_Service_soonest_plough ["self", "shares", "long"] (spSoonest K z.C_Service) := ok_Service_soonest_plough A
  refine A.x_Service_street_by_street.fn.ok sc_Service_street_by_street (fun vs H Q E h => ?_) (fun cdv Ar outer s H vs Q E hr h => ?_)
  · obtain ⟨a, t, F, rfl, _⟩ := h
    rfl
  · obtain ⟨a, t, F, rfl, o, S, k⟩ := h
    refine ⟨_, (pss_cons (ps_set (i := 1) sc_Service_street_by_street.nd rfl (Or.inl rfl) (pe_lst pa_nil))
    (pss_cons (ps_set (i := 2) sc_Service_street_by_street.nd rfl (Or.inl rfl) (pe_op op_rep (pe_lst (pa_cons pe_int pa_nil)) (pe_callB call_len_seq (by rfl) A.b_len bt_len (pa_cons (pe_fld (pv 0) rfl) pa_nil))))
    (pss_cons (ps_for PassesOwn.never rfl (pi_list (pe_fld (pv 0) rfl)) (pg_name (i := 3) sc_Service_street_by_street.nd rfl (Or.inl rfl))
      (pss_cons (ps_set (i := 4) sc_Service_street_by_street.nd rfl (Or.inl rfl) (pe_meth (pv 0) A.cl_Service A.x_Service_soonest_plough.mt G_so (hr.mono (by decide)) A.x_Service_soonest_plough.b .nil pass0 (pa_cons (pv 2) (pa_cons (pv 3) pa_nil))))
      (pss_cons (ps_augS (pv 2) (pv 4) get_list (pv 3) ip_add set_list)
      (pss_one (ps_expr (pe_bm PySem.F.plainAttrs_list PySem.F.slot_list_append PySem.F.type_list_append mt_append (pv 1) (pa_cons (pv 4) pa_nil)))))))
    (pss_one (ps_ret (pv 1)))))), ?_⟩
    obtain ⟨dx, lp, ls, la, lt, SA, eF⟩ := id S
    have sp3 := o.sp3
    have st6 := o.st6
    refine ⟨by show 0 ≤ sizeLine; decide, fun pl hpl => ?_⟩
    have s0 : Same H (upd H pl (.lst [])) := same_new hpl
    refine ⟨by show 1 ≤ sizeLine; decide, fun x1 h1 => ?_⟩
    have s1 := s0.trans (same_new (o := .lst [V.int 0]) h1)
    have hp1 : upd (upd H pl (.lst [])) x1 (.lst [V.int 0]) pl = some (.lst []) := same_new h1 _ _ upd_same
    refine ⟨_, rfl, a, z.C_Service, dx, _, _, rfl, s1 _ _ SA.obj, A.cl_Service, A.n_Service_ploughs, sf_p _ _ _ _, lp, _, rfl, .inl (SqL.of (s1 _ _ SA.sp)), ?_⟩
    refine ⟨x1, _, _, rfl, rfl, upd_same, by omega, by rw [vn_len]; omega, ?_, fun sh hsh => ?_⟩
    · rw [vn_len, Int.toNat_natCast]
      exact Nat.le_of_lt (size_ok (by show 1 * _ ≤ 1000; omega))
    rw [vn_len, Int.toNat_natCast, vn_rep, ← SR.shares_nil]
    have nsh : H sh = none := s1.free hsh
    have n1 : pl ≠ sh := ne_of_none hp1 hsh
    have s2 := s1.trans (same_new (o := .lst (vn (SR.shares t []))) hsh)
    refine ⟨_, rfl, a, z.C_Service, dx, _, _, rfl, s2 _ _ SA.obj, A.cl_Service, A.n_Service_streets, sf_s _ _ _ _, ls, rfl, ⟨_, SqL.of (s2 _ _ SA.st)⟩, ?_⟩
    refine for_list (xs := vn t.streets) (fun i σ H' => ∃ v3 v4, σ = [some (.ref a), some (.ref pl), some (.ref sh), v3, v4] ∧ Same H H' ∧ H' pl = some (.lst (vn (SR.plainTo t i))) ∧ H' sh = some (.lst (vn (SR.shares t (SR.plainTo t i))))) ⟨none, none, rfl, s2, (upd_ne n1).trans hp1, upd_same⟩ ?_ ?_ ?_
    · rintro i σ H' _ ⟨v3, v4, rfl, sm, _⟩
      exact SqL.of (sm _ _ SA.st)
    · rintro i x σ H' hx ⟨v3, v4, rfl, sm, e1, e2⟩
      obtain ⟨n, hn, rfl⟩ := vn_at hx
      have ilt : i < t.streets.length := (List.getElem?_eq_some_iff.mp hn).1
      have en : n = t.streets.getD (SR.plainTo t i).length 0 := by
        rw [SR.plainTo_len, List.getD_eq_getElem?_getD, hn]
        rfl
      have nle : n ≤ 1000 := by rw [en]; exact SR.street_le o _
      have plt := SR.pickTo_lt t (SR.plainTo t i) (show 0 < t.speeds.length from o.sp1) t.speeds.length (Nat.le_refl _)
      refine ⟨_, rfl, a, dx, _, rfl, sm _ _ SA.obj, rfl, _, rfl, _, rfl, ?_⟩
      refine ⟨a, sh, n, SR.plainTo t i, t, F, rfl, SqL.of e2, en, nle, by rw [SR.plainTo_len]; omega, o, S.same sm, fun H2 sm2 => ?_⟩
      refine ⟨_, rfl, _, rfl, sh, _, _, _, rfl, rfl, SqL.of (sm2 _ _ e2), at_vn (SR.shares_at plt), _, rfl, _, _, rfl, rfl, sh, _, _, SR.pickTo t (SR.plainTo t i) t.speeds.length, rfl, rfl, sm2 _ _ e2, ix_of (by rw [vn_len, SR.shares_len]; exact plt), ?_⟩
      refine ⟨_, rfl, .inl ⟨rfl, _, SqL.of ((upd_ne n1).trans (sm2 _ _ e1))⟩, _, rfl, pl, _, _, rfl, rfl, (upd_ne n1).trans (sm2 _ _ e1), size_ok (by rw [vn_len, SR.plainTo_len]; omega), ?_⟩
      refine ⟨_, _, rfl, same_upd (same_upd (sm.trans sm2) nsh) hpl, ?_, ?_⟩
      · rw [upd_same]
        show _ = some (HO.lst (vn (SR.plainTo t i ++ [SR.pickTo t (SR.plainTo t i) t.speeds.length])))
        rw [vn_app]
        rfl
      · rw [upd_ne (Ne.symm n1), upd_same]
        show _ = some (HO.lst (vn (SR.shares t (SR.plainTo t i ++ [SR.pickTo t (SR.plainTo t i) t.speeds.length]))))
        rw [SR.shares_snoc, ← vn_set, ← en]
        rfl
    · rintro σ H' ⟨v3, v4, rfl, sm, e1, e2⟩
      rw [vn_len, ← SR.plain_to] at e1
      exact ⟨_, rfl, k _ _ sm hpl e1⟩
end
end Pw
end
section
/-! check, best, needs, plain and what they lean on: all plans, and the four calls. -/
set_option Elab.async false
set_option linter.all false
set_option maxRecDepth 100000
set_option maxHeartbeats 2000000
namespace Pw
open PySem PySem.Spec PyProof.Rows L2
open SR (Good enc run said after)
open Si74 (Service Call step)
def grow (k : Nat) (l : List Nat) : List (List Nat) := (List.range k).map fun x => l ++ [x]
theorem grow_len (k : Nat) : ∀ L : List (List Nat), (L.flatMap (grow k)).length = L.length * k
  | [] => by simp
  | l :: L => by
    rw [List.flatMap_cons, List.length_append, grow_len k L, List.length_cons, Nat.add_mul, Nat.one_mul]
    unfold grow
    rw [List.length_map, List.length_range, Nat.add_comm]
theorem rows_grow (k n : Nat) : Si74.rows k (n + 1) = (Si74.rows k n).flatMap (grow k) := SR.rows_snoc k n
theorem range_map_snoc {α : Type} (f : Nat → α) (q : Nat) : (List.range (q + 1)).map f = (List.range q).map f ++ [f q] := by
  rw [List.range_succ, List.map_append]
  rfl
section
variable {P : Program} {w : World} {K : PySem.W.Frag} {mg : Str → Option Value} {base : Heap} {z : Ads}
/-! ### every_plan -/
def spEvery : Sp := fun vs H Q _ => ∃ n k : Nat, vs = [.int (n : Int), .int (k : Int)] ∧ n ≤ 6 ∧ k ≤ 3 ∧ NewRows H (Si74.rows k n) Q
theorem ok_every_plan (A : Alls K mg z) : FnOk P w K mg base CX0 1 z.f_every_plan z.d_every_plan ["street_count", "plough_count"] spEvery := by
  refine A.x_every_plan.fn.ok sc_every_plan (fun vs H Q E h => ?_) (fun cdv Ar outer s H vs Q E hr h => ?_)
  · obtain ⟨n, k, rfl, _⟩ := h
    rfl
  · obtain ⟨n, k, rfl, n6, k3, kk⟩ := h
    refine ⟨_, (pss_cons (ps_set (i := 2) sc_every_plan.nd rfl (Or.inl rfl) (pe_lst (pa_cons (pe_lst pa_nil) pa_nil)))
    (pss_cons (ps_for PassesOwn.never rfl (pi_range1 rfl A.b_range (pa_cons (pv 0) pa_nil)) (pg_name (i := 3) sc_every_plan.nd rfl (Or.inl rfl))
      (pss_cons (ps_set (i := 4) sc_every_plan.nd rfl (Or.inl rfl) (pe_lst pa_nil))
      (pss_cons (ps_for PassesOwn.never rfl (pi_list (pv 2)) (pg_name (i := 5) sc_every_plan.nd rfl (Or.inl rfl))
        (pss_one (ps_for PassesOwn.never rfl (pi_range1 rfl A.b_range (pa_cons (pv 1) pa_nil)) (pg_name (i := 6) sc_every_plan.nd rfl (Or.inl rfl))
          (pss_one (ps_expr (pe_bm PySem.F.plainAttrs_list PySem.F.slot_list_append PySem.F.type_list_append mt_append (pv 4) (pa_cons (pe_op op_cat (pv 5) (pe_lst (pa_cons (pv 6) pa_nil))) pa_nil)))))))
      (pss_one (ps_set (i := 2) sc_every_plan.nd rfl (Or.inl rfl) (pv 4))))))
    (pss_one (ps_ret (pv 2))))), ?_⟩
    refine ⟨by show 0 ≤ sizeLine; decide, fun x0 h0 => ?_⟩
    refine ⟨by show 1 ≤ sizeLine; decide, fun p0 hp0 => ?_⟩
    have s0 : Same H (upd H x0 (.lst [])) := same_new h0
    have s1 := s0.trans (same_new (o := .lst [V.ref x0]) hp0)
    have n0 : x0 ≠ p0 := ne_of_none upd_same hp0
    refine ⟨_, rfl, (n : Int), rfl, by omega, by omega, ?_⟩
    rw [Int.toNat_natCast]
    refine for_range (fun i σ H' => ∃ p v3 v4 v5 v6, σ = [some (.int (n : Int)), some (.int (k : Int)), some (.ref p), v3, v4, v5, v6] ∧ Same H H' ∧ H p = none ∧ RowsAt H H' p (Si74.rows k i))
      ⟨p0, none, none, none, none, rfl, s1, s0.free hp0, [x0], by simpa using Ne.symm n0, fun b hb => by rw [show b = x0 by simpa using hb]; exact h0, upd_same, by rw [map_upd (by simpa using Ne.symm n0)]; show [upd H x0 (.lst []) x0] = _; rw [upd_same]; rfl⟩ ?_ ?_
    · rintro i σ H' hi ⟨p, v3, v4, v5, v6, rfl, sm, np, as, nl, fr, e, f⟩
      have cnt : as.length ≤ 243 := by
        rw [rows_count f, SR.rows_count]
        exact Nat.le_trans (Nat.pow_le_pow_left k3 i) (Nat.pow_le_pow_right (n := 3) (by decide) (show i ≤ 5 by omega))
      refine ⟨by show 0 ≤ sizeLine; decide, fun lg hlg => ?_⟩
      have hlg0 : H lg = none := sm.free hlg
      have sg : Same H' (upd H' lg (.lst [])) := same_new hlg
      refine ⟨_, rfl, p, rfl, ⟨_, SqL.of (sg _ _ e)⟩, ?_⟩
      refine for_list (xs := as.map V.ref) (fun j σ H2 => ∃ v5 v6, σ = [some (.int (n : Int)), some (.int (k : Int)), some (.ref p), some (.int (0 + (i : Int))), some (.ref lg), v5, v6] ∧ Same H' H2 ∧ RowsAt H H2 lg (((Si74.rows k i).take j).flatMap (grow k)))
        ⟨v5, v6, rfl, sg, [], by simp, by simp, upd_same, rfl⟩ ?_ ?_ ?_
      · rintro j σ H2 _ ⟨w5, w6, rfl, sm2, _⟩
        exact SqL.of (sm2 _ _ e)
      · rintro j x σ H2 hx ⟨w5, w6, rfl, sm2, R⟩
        obtain ⟨b, l, rfl, hb, hl, hbl⟩ := rows_get f hx
        have jl : j < (Si74.rows k i).length := (List.getElem?_eq_some_iff.mp hl).1
        rw [← rows_count f] at jl
        refine ⟨_, rfl, (k : Int), rfl, by omega, by omega, ?_⟩
        rw [Int.toNat_natCast]
        refine for_range (fun q σ H3 => ∃ v6, σ = [some (.int (n : Int)), some (.int (k : Int)), some (.ref p), some (.int (0 + (i : Int))), some (.ref lg), some (.ref b), v6] ∧ Same H' H3 ∧ RowsAt H H3 lg (((Si74.rows k i).take j).flatMap (grow k) ++ (List.range q).map fun x => l ++ [x]))
          ⟨w6, rfl, sm2, by simpa using R⟩ ?_ ?_
        · rintro q σ H3 hq ⟨v6, rfl, sm3, bs, nl3, fr3, e3, f3⟩
          have b3 := sm3 _ _ hbl
          have len3 : bs.length ≤ 800 := by
            rw [rows_count f3, List.length_append, grow_len, List.length_map, List.length_range, List.length_take]
            have : min j (Si74.rows k i).length * k ≤ 243 * 3 := Nat.mul_le_mul (by omega) k3
            omega
          have rl : l.length ≤ 6 := by
            have := SR.rows_len (List.mem_of_getElem? hl)
            omega
          refine ⟨_, rfl, .inl ⟨rfl, _, SqL.of e3⟩, _, rfl, _, rfl, by show 1 ≤ sizeLine; decide, fun y hy => ?_⟩
          have sy := same_new (o := .lst [V.int (0 + (q : Int))]) hy
          refine ⟨b, y, _, _, rfl, rfl, sy _ _ b3, upd_same, Nat.le_of_lt (size_ok (by rw [vn_len]; show _ + 1 ≤ 1000; omega)), fun x hx => ?_⟩
          have ev : vn l ++ [V.int (0 + (q : Int))] = vn (l ++ [q]) := by
            rw [vn_app, Int.zero_add]
            rfl
          rw [ev]
          have sx := sy.trans (same_new (o := .lst (vn (l ++ [q]))) hx)
          have nx : lg ≠ x := ne_of_none (sy _ _ e3) hx
          refine ⟨lg, _, _, rfl, rfl, sx _ _ e3, size_ok (by rw [List.length_map]; omega), ?_⟩
          refine ⟨_, rfl, same_upd (sm3.trans sx) hlg, ?_⟩
          rw [range_map_snoc, ← List.append_assoc]
          exact RowsAt.push nl3 fr3 (rows_same sx _ _ f3) upd_same nx ((sm.trans sm3).free (sy.free hx))
        · rintro σ H3 ⟨v6, rfl, sm3, R3⟩
          refine ⟨_, _, rfl, sm3, ?_⟩
          rw [take_snoc hl, List.flatMap_append, List.flatMap_cons, List.flatMap_nil, List.append_nil]
          exact R3
      · rintro σ H2 ⟨w5, w6, rfl, sm2, R⟩
        rw [List.length_map, rows_count f, List.take_length, ← rows_grow] at R
        exact ⟨_, rfl, lg, _, _, _, _, rfl, sm.trans sm2, hlg0, R⟩
    · rintro σ H' ⟨p, v3, v4, v5, v6, rfl, sm, np, R⟩
      exact ⟨_, rfl, kk _ _ sm np R⟩
/-! ### plans_that_can_be -/
def spPlans (C : Addr) : Sp := fun vs H Q _ => ∃ (a : Addr) (t : Service) (F : List Addr), vs = [.ref a] ∧ SR.Ok t ∧ Svc C H a t F ∧ NewRows H t.plans Q
theorem ok_Service_plans_that_can_be (A : Alls K mg z) : FnOk P w K mg base CX0 3 z.f_Service_plans_that_can_be z.d_Service_plans_that_can_be ["self"] (spPlans z.C_Service) := by
  have G_every : FnOk P w K mg base CX0 1 z.f_every_plan z.d_every_plan ["street_count", "plough_count"] spEvery := ok_every_plan A
  have G_can : FnOk P w K mg base CX0 2 z.f_Service_can_be z.d_Service_can_be ["self", "plan"] (spCan K z.C_Service) := ok_Service_can_be A
  refine A.x_Service_plans_that_can_be.fn.ok sc_Service_plans_that_can_be (fun vs H Q E h => ?_) (fun cdv Ar outer s H vs Q E hr h => ?_)
  · obtain ⟨a, t, F, rfl, _⟩ := h
    rfl
  · obtain ⟨a, t, F, rfl, o, S, kk⟩ := h
    refine ⟨_, (pss_one (ps_ret (pe_lc (own := [("plan", 1)]) rfl sc_Service_plans_that_can_be.nd (pi_list (pe_call G_every (hr.mono (by decide)) rfl A.x_every_plan.m A.x_every_plan.k A.x_every_plan.b .nil pass0 (pa_cons (pe_callB call_len_seq (by rfl) A.b_len bt_len (pa_cons (pe_fld (pv 0) rfl) pa_nil)) (pa_cons (pe_callB call_len_seq (by rfl) A.b_len bt_len (pa_cons (pe_fld (pv 0) rfl) pa_nil)) pa_nil)))) (blkOk_by (N := ["self", "plan"]) (sc := defScope s_Service_plans_that_can_be) (by decide +kernel)) (fun _ _ _ _ _ => (pg_name (i := 1) sc_Service_plans_that_can_be.nd rfl (Or.inl rfl))) (fun _ _ _ _ _ => (pts_one (pt_val (pe_meth (pv 0) A.cl_Service A.x_Service_can_be.mt G_can (hr.mono (by decide)) A.x_Service_can_be.b .nil pass0 (pa_cons (pv 1) pa_nil))))) (fun _ _ _ _ _ => (pv 1))))), ?_⟩
    obtain ⟨dx, lp, ls, la, lt, SA, eF⟩ := id S
    refine ⟨_, rfl, a, z.C_Service, dx, _, _, rfl, SA.obj, A.cl_Service, A.n_Service_streets, sf_s _ _ _ _, ls, _, rfl, .inl (SqL.of SA.st), ?_⟩
    refine ⟨_, rfl, a, z.C_Service, dx, _, _, rfl, SA.obj, A.cl_Service, A.n_Service_ploughs, sf_p _ _ _ _, lp, _, rfl, .inl (SqL.of SA.sp), ?_⟩
    refine ⟨t.streets.length, t.speeds.length, by rw [vn_len, vn_len]; rfl, o.st6, o.sp3, fun H1 ep sm nep R => ?_⟩
    obtain ⟨as, nl, fr, e, f⟩ := R
    refine ⟨ep, rfl, ⟨_, SqL.of e⟩, fun dd hdd => lc_list (xs := as.map V.ref) (fun i H' => Same H1 H' ∧ RowsAt H H' dd (((Si74.rows t.speeds.length t.streets.length).take i).filter t.right)) ⟨same_new hdd, [], by simp, by simp, upd_same, rfl⟩ ?_ ?_ ?_⟩
    · rintro i H' _ ⟨s2, _⟩
      exact SqL.of (s2 _ _ e)
    · rintro i x H' hx ⟨s2, R2⟩
      obtain ⟨b, l, rfl, hb, hl, hbl⟩ := rows_get f hx
      have lm := List.mem_of_getElem? hl
      have told := SR.told_rows lm
      have S2 := S.same (sm.trans s2)
      have few : ((Si74.rows t.speeds.length t.streets.length).take i).length ≤ 729 := Nat.le_trans (List.length_take_le' _ _) (SR.rows_few o (Nat.le_refl _))
      refine ⟨rfl, ?_⟩
      refine ⟨_, rfl, a, dx, _, rfl, (sm.trans s2) _ _ SA.obj, rfl, _, rfl, ?_⟩
      refine ⟨a, b, l, t, F, rfl, SqL.of (s2 _ _ hbl), (SR.told_parts told).1, o, S2, fun H3 sm3 => ⟨_, rfl, ite2 (fun c => ?_) (fun c => ?_)⟩⟩
      · obtain ⟨bs, n3, fr3, e3, f3⟩ := R2.same sm3
        have len3 : bs.length ≤ 729 := by
          rw [rows_count f3]
          exact Nat.le_trans (List.length_filter_le _ _) few
        have b3 : H3 b = some (.lst (vn l)) := (s2.trans sm3) _ _ hbl
        refine ⟨_, rfl, _, e3, size_ok (by rw [List.length_map]; omega), ?_, ?_⟩
        · exact same_upd (s2.trans sm3) hdd
        · rw [take_snoc hl, List.filter_append, List.filter_cons, if_pos (by rw [SR.right_told told]; exact c)]
          exact RowsAt.push n3 fr3 f3 b3 (Ne.symm (ne_of_none hbl hdd)) (fr b hb)
      · refine ⟨s2.trans sm3, ?_⟩
        rw [take_snoc hl, List.filter_append, List.filter_cons, if_neg (by rw [SR.right_told told]; exact c)]
        rw [List.filter_nil, List.append_nil]
        exact R2.same sm3
    · rintro H' ⟨s2, R2⟩
      rw [List.length_map, rows_count f, List.take_length] at R2
      exact kk _ _ (sm.trans s2) (sm.free hdd) R2
/-! ### check -/
def spCheck (K : PySem.W.Frag) (C : Addr) : Sp := fun vs H Q _ => ∃ (a c : Addr) (l : List Nat) (t : Service) (F : List Addr), vs = [.ref a, .ref c] ∧ SqL K H c (vn l) ∧ l.length ≤ 8 ∧ SR.Ok t ∧ Svc C H a t F ∧ Does C t (.check l) a F H Q
theorem ok_Service_check (A : Alls K mg z) : FnOk P w K mg base CX0 3 z.f_Service_check z.d_Service_check ["self", "plan"] (spCheck K z.C_Service) := by
  have G_why : FnOk P w K mg base CX0 1 z.f_Service_why_not z.d_Service_why_not ["self", "plan"] (spWhy K z.C_Service) := ok_Service_why_not A
  have G_isp : FnOk P w K mg base CX0 1 z.f_Service_is_plan z.d_Service_is_plan ["self", "plan"] (spIsPlan K z.C_Service) := ok_Service_is_plan A
  have G_sh : FnOk P w K mg base CX0 1 z.f_Service_shares_of z.d_Service_shares_of ["self", "plan"] (spShares K z.C_Service) := ok_Service_shares_of A
  have G_cl : FnOk P w K mg base CX0 2 z.f_Service_all_clear z.d_Service_all_clear ["self", "plan"] (spClear K z.C_Service) := ok_Service_all_clear A
  refine A.x_Service_check.fn.ok sc_Service_check (fun vs H Q E h => ?_) (fun cdv Ar outer s H vs Q E hr h => ?_)
  · obtain ⟨a, c, l, t, F, rfl, _⟩ := h
    rfl
  · obtain ⟨a, c, l, t, F, rfl, hc, l8, o, S, k⟩ := h
    refine ⟨_, (pss_cons (ps_if (pt_not (pt_val (pe_meth (pv 0) A.cl_Service A.x_Service_is_plan.mt G_isp (hr.mono (by decide)) A.x_Service_is_plan.b .nil pass0 (pa_cons (pv 1) pa_nil))))
      (pss_one (ps_ret (pe_lst (pa_cons (pe_gl rfl A.g_WRONG_NUMBER) pa_nil))))
      pss_nil)
    (pss_cons (ps_set (i := 2) sc_Service_check.nd rfl (Or.inl rfl) (pe_meth (pv 0) A.cl_Service A.x_Service_why_not.mt G_why (hr.mono (by decide)) A.x_Service_why_not.b .nil pass0 (pa_cons (pv 1) pa_nil)))
    (pss_cons (ps_if (pt_cmpR (op_neD (u64 hr)) (pv 2) (pe_lst pa_nil) (nomark _))
      (pss_one (ps_ret (pv 2)))
      pss_nil)
    (pss_one (ps_ret (pe_op op_cat (pe_op op_cat (pe_lst (pa_cons (pe_gl rfl A.g_DONE) pa_nil)) (pe_meth (pv 0) A.cl_Service A.x_Service_all_clear.mt G_cl (hr.mono (by decide)) A.x_Service_all_clear.b .nil pass0 (pa_cons (pv 1) pa_nil))) (pe_meth (pv 0) A.cl_Service A.x_Service_shares_of.mt G_sh (hr.mono (by decide)) A.x_Service_shares_of.b .nil pass0 (pa_cons (pv 1) pa_nil)))))))), ?_⟩
    obtain ⟨dx, lp, ls, la, lt, SA, eF⟩ := id S
    have sp3 := o.sp3
    refine ⟨_, rfl, a, dx, _, rfl, SA.obj, rfl, _, rfl, ?_⟩
    refine ⟨a, c, l, t, F, rfl, hc, l8, S, fun H1 sm1 => ⟨_, rfl, ite2 (fun c1 => ?_) (fun c1 => ?_)⟩⟩
    · have tf : t.told l = false := by rw [Bool.not_eq_true'] at c1; exact c1
      have e : step t (.check l) = (t, Si74.ok (-1)) := if_pos tf
      refine ⟨by show 1 ≤ sizeLine; decide, fun p hp => ?_⟩
      have q := k.still S sm1 (by rw [e]) hp
      rw [e] at q
      exact q
    have tt : t.told l = true := by
      cases d : t.told l with
      | true => rfl
      | false => rw [d] at c1; exact (c1 rfl).elim
    have es : (step t (.check l)).1 = t := by rw [SR.step_check tt]
    have ea := SR.step_check_said tt
    refine ⟨_, rfl, a, dx, _, rfl, sm1 _ _ SA.obj, rfl, _, rfl, ?_⟩
    refine ⟨a, c, l, t, F, rfl, sm1.seq hc, (SR.told_parts tt).1, o, S.same sm1, fun H2 p2 sm2 np2 hp2 => ?_⟩
    have s2 : Same H H2 := sm1.trans sm2
    refine ⟨_, rfl, by show 0 ≤ sizeLine; decide, fun x hx => ?_⟩
    have sx := same_new (o := .lst []) hx
    have s3 := s2.trans sx
    refine ⟨di (SR.why t l), di [], dp_ints (SqL.of (sx _ _ hp2)), dp_ints (SqL.of upd_same), di_shaped _, di_shaped _, _, rfl, ite2 (fun c2 => ?_) (fun c2 => ?_)⟩
    · rw [di_nil] at c2
      have ew : (SR.why t l).isEmpty = false := by rw [Bool.not_eq_true'] at c2; exact c2
      rw [if_neg (by rw [ew]; decide)] at ea
      refine ⟨_, rfl, k.give S s3 es (sm1.free np2) ?_⟩
      rw [ea]
      exact sx _ _ hp2
    have ew : (SR.why t l).isEmpty = true := by
      rw [di_nil] at c2
      cases d : (SR.why t l).isEmpty with
      | true => rfl
      | false => rw [d] at c2; exact (c2 rfl).elim
    rw [if_pos ew] at ea
    refine ⟨by show 1 ≤ sizeLine; decide, fun y hy => ?_⟩
    have sy := same_new (o := .lst [V.int 0]) hy
    have s4 := s3.trans sy
    refine ⟨_, rfl, a, dx, _, rfl, s4 _ _ SA.obj, rfl, _, rfl, ?_⟩
    refine ⟨a, c, l, t, F, rfl, s4.seq hc, tt, o, S.same s4, fun H5 p5 sm5 np5 hp5 => ?_⟩
    have s5 := s4.trans sm5
    refine ⟨y, p5, _, _, rfl, rfl, sm5 _ _ upd_same, hp5, by show 3 ≤ sizeLine; decide, fun p6 hp6 => ?_⟩
    have s6 := s5.trans (same_new (o := .lst ([V.int 0] ++ vn (Si74.both (SR.clr t l)))) hp6)
    refine ⟨_, rfl, a, dx, _, rfl, s6 _ _ SA.obj, rfl, _, rfl, ?_⟩
    refine ⟨a, c, l, t, F, rfl, s6.seq hc, tt, o, S.same s6, fun H7 p7 sm7 np7 hp7 => ?_⟩
    have s7 := s6.trans sm7
    refine ⟨p6, p7, _, _, rfl, rfl, sm7 _ _ upd_same, hp7, Nat.le_of_lt (size_ok (by rw [vn_len, SR.shares_len]; show 3 + _ ≤ 1000; omega)), fun p8 hp8 => ?_⟩
    refine k.give S (s7.trans (same_new hp8)) es (s7.free hp8) ?_
    rw [ea, upd_same]
    show _ = some (HO.lst (V.int 0 :: (Si74.ints _).map V.int))
    rw [← vn_ints, vn_app]
    rfl
/-! ### plain -/
def spPlain (C : Addr) : Sp := fun vs H Q _ => ∃ (a : Addr) (t : Service) (F : List Addr), vs = [.ref a] ∧ SR.Ok t ∧ Svc C H a t F ∧ Does C t .plain a F H Q
theorem ok_Service_plain (A : Alls K mg z) : FnOk P w K mg base CX0 4 z.f_Service_plain z.d_Service_plain ["self"] (spPlain z.C_Service) := by
  have G_by : FnOk P w K mg base CX0 3 z.f_Service_street_by_street z.d_Service_street_by_street ["self"] (spBy z.C_Service) := ok_Service_street_by_street A
  have G_can : FnOk P w K mg base CX0 2 z.f_Service_can_be z.d_Service_can_be ["self", "plan"] (spCan K z.C_Service) := ok_Service_can_be A
  have G_cl : FnOk P w K mg base CX0 2 z.f_Service_all_clear z.d_Service_all_clear ["self", "plan"] (spClear K z.C_Service) := ok_Service_all_clear A
  refine A.x_Service_plain.fn.ok sc_Service_plain (fun vs H Q E h => ?_) (fun cdv Ar outer s H vs Q E hr h => ?_)
  · obtain ⟨a, t, F, rfl, _⟩ := h
    rfl
  · obtain ⟨a, t, F, rfl, o, S, k⟩ := h
    refine ⟨_, (pss_cons (ps_set (i := 1) sc_Service_plain.nd rfl (Or.inl rfl) (pe_meth0 (pv 0) A.cl_Service A.x_Service_street_by_street.mt G_by (hr.mono (by decide)) A.x_Service_street_by_street.b .nil pass0))
    (pss_cons (ps_set (i := 2) sc_Service_plain.nd rfl (Or.inl rfl) (pe_ifExp (pt_val (pe_meth (pv 0) A.cl_Service A.x_Service_can_be.mt G_can (hr.mono (by decide)) A.x_Service_can_be.b .nil pass0 (pa_cons (pv 1) pa_nil))) pe_int pe_int))
    (pss_one (ps_ret (pe_op op_cat (pe_op op_cat (pe_lst (pa_cons (pv 2) pa_nil)) (pe_meth (pv 0) A.cl_Service A.x_Service_all_clear.mt G_cl (hr.mono (by decide)) A.x_Service_all_clear.b .nil pass0 (pa_cons (pv 1) pa_nil))) (pv 1)))))), ?_⟩
    obtain ⟨dx, lp, ls, la, lt, SA, eF⟩ := id S
    have st6 := o.st6
    have tt := SR.told_plain o
    refine ⟨_, rfl, a, dx, _, rfl, SA.obj, rfl, ?_⟩
    refine ⟨a, t, F, rfl, o, S, fun H1 pl sm1 npl hpl => ?_⟩
    refine ⟨_, rfl, a, dx, _, rfl, sm1 _ _ SA.obj, rfl, _, rfl, ?_⟩
    refine ⟨a, pl, t.plain, t, F, rfl, SqL.of hpl, (SR.told_parts tt).1, o, S.same sm1, fun H2 sm2 => ?_⟩
    have s2 := sm1.trans sm2
    have fin : ∀ n : Int, n = (if t.right t.plain = true then 1 else 0) → ∀ y, H2 y = none → ∀ H5 p5, Same (upd H2 y (.lst [V.int n])) H5 → upd H2 y (.lst [V.int n]) p5 = none → H5 p5 = some (.lst (vn (Si74.both (SR.clr t t.plain)))) →
        rCat (.ref y) (.ref p5) H5 fun v H6 => rCat v (.ref pl) H6 Q := by
      intro n hn y hy H5 p5 sm5 np5 hp5
      have sy := same_new (o := .lst [V.int n]) hy
      have s5 := (s2.trans sy).trans sm5
      refine ⟨y, p5, _, _, rfl, rfl, sm5 _ _ upd_same, hp5, by show 3 ≤ sizeLine; decide, fun p6 hp6 => ?_⟩
      have s6 := same_new (o := .lst ([V.int n] ++ vn (Si74.both (SR.clr t t.plain)))) hp6
      refine ⟨p6, pl, _, _, rfl, rfl, upd_same, s6 _ _ (sm5 _ _ (sy _ _ (sm2 _ _ hpl))), Nat.le_of_lt (size_ok (by rw [vn_len, (SR.told_parts tt).1]; show 3 + _ ≤ 1000; omega)), fun p8 hp8 => ?_⟩
      refine k.give S ((s5.trans s6).trans (same_new hp8)) rfl ((s5.trans s6).free hp8) ?_
      rw [upd_same, hn]
      show _ = some (HO.lst (V.int (if t.right t.plain = true then 1 else 0) :: (Si74.ints (Si74.both (SR.clr t t.plain) ++ t.plain)).map V.int))
      rw [← vn_ints, vn_app]
      rfl
    refine ⟨_, rfl, ite2 (fun c1 => ?_) (fun c1 => ?_)⟩
    · refine ⟨_, rfl, by show 1 ≤ sizeLine; decide, fun y hy => ?_⟩
      have sy := same_new (o := .lst [V.int 1]) hy
      have s3 := s2.trans sy
      refine ⟨_, rfl, a, dx, _, rfl, s3 _ _ SA.obj, rfl, _, rfl, ?_⟩
      refine ⟨a, pl, t.plain, t, F, rfl, SqL.of (sy _ _ (sm2 _ _ hpl)), tt, o, S.same s3, fun H5 p5 sm5 np5 hp5 => ?_⟩
      obtain ⟨l1, l2, xs, zs, r1, r2, r3, r4, r5, r6⟩ := fin 1 (by rw [if_pos (by rw [SR.right_told tt]; exact c1)]) y hy H5 p5 sm5 np5 hp5
      exact ⟨l1, l2, xs, zs, r1, r2, r3, r4, r5, fun p hp => ⟨_, rfl, r6 p hp⟩⟩
    · refine ⟨_, rfl, by show 1 ≤ sizeLine; decide, fun y hy => ?_⟩
      have sy := same_new (o := .lst [V.int 0]) hy
      have s3 := s2.trans sy
      refine ⟨_, rfl, a, dx, _, rfl, s3 _ _ SA.obj, rfl, _, rfl, ?_⟩
      refine ⟨a, pl, t.plain, t, F, rfl, SqL.of (sy _ _ (sm2 _ _ hpl)), tt, o, S.same s3, fun H5 p5 sm5 np5 hp5 => ?_⟩
      obtain ⟨l1, l2, xs, zs, r1, r2, r3, r4, r5, r6⟩ := fin 0 (by rw [if_neg (by rw [SR.right_told tt]; exact c1)]) y hy H5 p5 sm5 np5 hp5
      exact ⟨l1, l2, xs, zs, r1, r2, r3, r4, r5, fun p hp => ⟨_, rfl, r6 p hp⟩⟩
end
end Pw
end
section
/-! best and needs. -/
set_option Elab.async false
set_option linter.all false
set_option maxRecDepth 100000
set_option maxHeartbeats 2000000
namespace Pw
open PySem PySem.Spec PyProof.Rows L2
open SR (Good enc run said after)
open Si74 (Service Call step)
theorem foldl_snoc {α β : Type} (f : β → α → β) (b : β) (l : List α) (x : α) : (l ++ [x]).foldl f b = f (l.foldl f b) x := by
  rw [List.foldl_append]
  rfl
theorem both_eq {x y : Si74.Part} : decide (Si74.ints (Si74.both x) = Si74.ints (Si74.both y)) = decide (x = y) := by
  rw [Bool.eq_iff_iff, decide_eq_true_eq, decide_eq_true_eq]
  constructor
  · intro h
    have h1 : (x.1 : Int) = (y.1 : Int) := (List.cons.inj h).1
    have h2 : (x.2 : Int) = (y.2 : Int) := (List.cons.inj (List.cons.inj h).2).1
    exact Prod.ext (by omega) (by omega)
  · intro h
    rw [h]
theorem take_filter_len {l : List (List Nat)} {p : List Nat → Bool} {i n : Nat} (h : l.length ≤ n) : ((l.take i).filter p).length ≤ n := Nat.le_trans (List.length_filter_le _ _) (Nat.le_trans (List.length_take_le' _ _) h)
section
variable {P : Program} {w : World} {K : PySem.W.Frag} {mg : Str → Option Value} {base : Heap} {z : Ads}
/-! ### best -/
def spBest (C : Addr) : Sp := fun vs H Q _ => ∃ (a : Addr) (t : Service) (F : List Addr), vs = [.ref a] ∧ SR.Ok t ∧ Svc C H a t F ∧ Does C t .best a F H Q
theorem ok_Service_best (A : Alls K mg z) : FnOk P w K mg base CX0 4 z.f_Service_best z.d_Service_best ["self"] (spBest z.C_Service) := by
  have G_pl : FnOk P w K mg base CX0 3 z.f_Service_plans_that_can_be z.d_Service_plans_that_can_be ["self"] (spPlans z.C_Service) := ok_Service_plans_that_can_be A
  have G_cl : FnOk P w K mg base CX0 2 z.f_Service_all_clear z.d_Service_all_clear ["self", "plan"] (spClear K z.C_Service) := ok_Service_all_clear A
  have G_is_less : FnOk P w K mg base CX0 1 z.f_is_less z.d_is_less ["fraction", "other"] (spLess K) := ok_is_less A
  refine A.x_Service_best.fn.ok sc_Service_best (fun vs H Q E h => ?_) (fun cdv Ar outer s H vs Q E hr h => ?_)
  · obtain ⟨a, t, F, rfl, _⟩ := h
    rfl
  · obtain ⟨a, t, F, rfl, o, S, k⟩ := h
    refine ⟨_, (pss_cons (ps_set (i := 1) sc_Service_best.nd rfl (Or.inl rfl) (pe_meth0 (pv 0) A.cl_Service A.x_Service_plans_that_can_be.mt G_pl (hr.mono (by decide)) A.x_Service_plans_that_can_be.b .nil pass0))
    (pss_cons (ps_if (pt_cmpR (op_eqD (u64 hr)) (pv 1) (pe_lst pa_nil) (nomark _))
      (pss_one (ps_ret (pe_lst (pa_cons (pe_gl rfl A.g_NO_PLAN) pa_nil))))
      pss_nil)
    (pss_cons (ps_set (i := 2) sc_Service_best.nd rfl (Or.inr rfl) (pe_meth (pv 0) A.cl_Service A.x_Service_all_clear.mt G_cl (hr.mono (by decide)) A.x_Service_all_clear.b .nil pass0 (pa_cons (pe_ix ix_list (pv 1) pe_int (fun _ _ => rfl)) pa_nil)))
    (pss_cons (ps_for PassesOwn.never rfl (pi_list (pv 1)) (pg_name (i := 3) sc_Service_best.nd rfl (Or.inl rfl))
      (pss_cons (ps_set (i := 5) sc_Service_best.nd rfl (Or.inl rfl) (pe_meth (pv 0) A.cl_Service A.x_Service_all_clear.mt G_cl (hr.mono (by decide)) A.x_Service_all_clear.b .nil pass0 (pa_cons (pv 3) pa_nil)))
      (pss_one (ps_if (pt_val (pe_call G_is_less (hr.mono (by decide)) rfl A.x_is_less.m A.x_is_less.k A.x_is_less.b .nil pass0 (pa_cons (pv 5) (pa_cons (pv 2) pa_nil))))
        (pss_one (ps_set (i := 2) sc_Service_best.nd rfl (Or.inr rfl) (pv 5)))
        pss_nil))))
    (pss_cons (ps_setLc (i := 4) (own := [("plan", 3)]) rfl sc_Service_best.nd rfl rfl (sw_true rfl rfl rfl (by decide +kernel)) (pi_list (pv 1)) (blkOk_by (N := ["self", "plans", "soonest", "plan", "as_good", "clear"]) (sc := defScope s_Service_best) (by decide +kernel)) (fun _ _ _ _ _ => (pg_name (i := 3) sc_Service_best.nd rfl (Or.inl rfl))) (fun _ _ _ _ _ => (pts_one (pt_cmpR (op_eqDK K (u64 hr)) (pe_meth (pv 0) A.cl_Service A.x_Service_all_clear.mt G_cl (hr.mono (by decide)) A.x_Service_all_clear.b .nil pass0 (pa_cons (pv 3) pa_nil)) (pv 2) (nomark _)))) (fun _ _ _ _ _ => (pv 3)))
    (pss_one (ps_ret (pe_op op_cat (pe_op op_cat (pe_op op_cat (pe_lst (pa_cons (pe_gl rfl A.g_DONE) pa_nil)) (pv 2)) (pe_lst (pa_cons (pe_callB call_len_seq (by rfl) A.b_len bt_len (pa_cons (pv 4) pa_nil)) pa_nil))) (pe_ix ix_list (pv 4) pe_int (fun _ _ => rfl)))))))))), ?_⟩
    obtain ⟨dx, lp, ls, la, lt, SA, eF⟩ := id S
    have st6 := o.st6
    have few := SR.plans_few o
    refine ⟨_, rfl, a, dx, _, rfl, SA.obj, rfl, ?_⟩
    refine ⟨a, t, F, rfl, o, S, fun H1 pp sm1 npp R => ?_⟩
    refine ⟨_, rfl, by show 0 ≤ sizeLine; decide, fun x hx => ?_⟩
    have sx := same_new (o := .lst []) hx
    have s2 := sm1.trans sx
    have R2 := R.same sx
    refine ⟨dr (t.plans.map Si74.ints), di [], R2.dp, dp_ints (l := []) (SqL.of upd_same), dr_shaped _, di_shaped _, _, rfl, ite2 (fun c1 => ?_) (fun c1 => ?_)⟩
    · have en : t.plans = [] := by
        rw [dr_nil] at c1
        cases d : t.plans with
        | nil => rfl
        | cons p ps => rw [d] at c1; cases c1
      have e : step t .best = (t, Si74.ok (-6)) := by
        show (t, match t.best with | none => Si74.ok (-6) | some x => ⟨0, Si74.ints (Si74.both x.clear ++ (x.many :: x.row))⟩) = _
        rw [SR.best_none en]
      refine ⟨by show 1 ≤ sizeLine; decide, fun p hp => ?_⟩
      have q := k.still S s2 rfl hp
      rw [e] at q
      exact q
    cases hps : t.plans with
    | nil => rw [hps] at c1; exact (c1 rfl).elim
    | cons p0 ps =>
      obtain ⟨row, tl, g1, g2⟩ := SR.best_some o hps
      have e : step t .best = (t, ⟨0, Si74.ints (Si74.both (t.plans.foldl (SR.soon (SR.clr t)) (SR.clr t p0)) ++ ((tl.length + 1) :: row))⟩) := by
        show (t, match t.best with | none => Si74.ok (-6) | some x => ⟨0, Si74.ints (Si74.both x.clear ++ (x.many :: x.row))⟩) = _
        rw [g2]
      obtain ⟨as, nl, fr, ep, f⟩ := R2
      obtain ⟨b0, hb0, mb0, eb0⟩ := rows_head (by rw [hps] at f; exact f)
      have p0m : p0 ∈ t.plans := by rw [hps]; exact List.mem_cons_self
      have t0 := SR.plans_sub p0m
      generalize hH2 : upd H1 x (.lst []) = H2 at *
      refine ⟨_, rfl, a, dx, _, rfl, s2 _ _ SA.obj, rfl, _, rfl, pp, _, _, _, rfl, rfl, SqL.of ep, atI_nat (j := 0) hb0, ?_⟩
      refine ⟨a, b0, p0, t, F, rfl, SqL.of eb0, t0, o, S.same s2, fun H3 so sm3 nso hso => ?_⟩
      have s3 := s2.trans sm3
      have c0 := SR.clr_in o (told_len o t0)
      refine ⟨_, rfl, pp, rfl, ⟨_, SqL.of (sm3 _ _ ep)⟩, ?_⟩
      refine for_list (xs := as.map V.ref) (fun i σ H' => ∃ so v3 v5, σ = [some (.ref a), some (.ref pp), some (.ref so), v3, none, v5] ∧ Same H2 H' ∧ H' so = some (.lst (vn (Si74.both ((t.plans.take i).foldl (SR.soon (SR.clr t)) (SR.clr t p0))))) ∧ ((t.plans.take i).foldl (SR.soon (SR.clr t)) (SR.clr t p0)).1 ≤ 8000) ⟨so, none, none, rfl, sm3, hso, c0.1⟩ ?_ ?_ ?_
      · rintro i σ H' _ ⟨so, v3, v5, rfl, sm, _⟩
        exact SqL.of (sm _ _ ep)
      · rintro i x σ H' hx ⟨so, v3, v5, rfl, sm, hs, hm⟩
        obtain ⟨b, l, rfl, hb, hl, hbl⟩ := rows_get f hx
        have tl := SR.plans_sub (List.mem_of_getElem? hl)
        have cl := SR.clr_in o (told_len o tl)
        have s4 := s2.trans sm
        refine ⟨_, rfl, a, dx, _, rfl, s4 _ _ SA.obj, rfl, _, rfl, ?_⟩
        refine ⟨a, b, l, t, F, rfl, SqL.of (sm _ _ hbl), tl, o, S.same s4, fun H5 cc sm5 ncc hcc => ?_⟩
        refine ⟨_, rfl, _, rfl, ?_⟩
        refine ⟨cc, so, (SR.clr t l).1, (SR.clr t l).2, ((t.plans.take i).foldl (SR.soon (SR.clr t)) (SR.clr t p0)).1, ((t.plans.take i).foldl (SR.soon (SR.clr t)) (SR.clr t p0)).2, rfl, SqL.of hcc, SqL.of (sm5 _ _ hs), by omega, by omega, _, rfl, ite2 (fun c2 => ?_) (fun c2 => ?_)⟩
        · have es : (t.plans.take (i + 1)).foldl (SR.soon (SR.clr t)) (SR.clr t p0) = SR.clr t l := by
            rw [take_snoc hl, foldl_snoc]
            unfold SR.soon
            exact if_pos c2
          refine ⟨_, rfl, cc, _, _, rfl, sm.trans sm5, ?_, ?_⟩
          · rw [es]
            exact hcc
          · rw [es]
            exact cl.1
        · have es : (t.plans.take (i + 1)).foldl (SR.soon (SR.clr t)) (SR.clr t p0) = (t.plans.take i).foldl (SR.soon (SR.clr t)) (SR.clr t p0) := by
            rw [take_snoc hl, foldl_snoc]
            exact if_neg c2
          refine ⟨so, _, _, rfl, sm.trans sm5, ?_, ?_⟩
          · rw [es]
            exact sm5 _ _ hs
          · rw [es]
            exact hm
      · rintro σ H4 ⟨so, v3, v5, rfl, sm4, hs, hm⟩
        rw [List.length_map, rows_count f, List.take_length] at hs hm
        have s4 := s2.trans sm4
        generalize t.plans.foldl (SR.soon (SR.clr t)) (SR.clr t p0) = M at hs hm g1 e
        refine ⟨_, rfl, pp, rfl, ⟨_, SqL.of (sm4 _ _ ep)⟩, fun dd hdd => lc_list (xs := as.map V.ref) (fun i H' => Same H4 H' ∧ RowsAt H H' dd ((t.plans.take i).filter fun l => decide (SR.clr t l = M))) ⟨same_new hdd, [], by simp, by simp, upd_same, rfl⟩ ?_ ?_ ?_⟩
        · rintro i H' _ ⟨sm, _⟩
          exact SqL.of ((sm4.trans sm) _ _ ep)
        · rintro i x H' hx ⟨sm, RR⟩
          obtain ⟨b, l, rfl, hb, hl, hbl⟩ := rows_get f hx
          have tl := SR.plans_sub (List.mem_of_getElem? hl)
          have s5 := s4.trans sm
          refine ⟨rfl, ?_⟩
          refine ⟨_, rfl, a, dx, _, rfl, s5 _ _ SA.obj, rfl, _, rfl, ?_⟩
          refine ⟨a, b, l, t, F, rfl, SqL.of ((sm4.trans sm) _ _ hbl), tl, o, S.same s5, fun H6 cc sm6 ncc hcc => ?_⟩
          refine ⟨_, rfl, di (Si74.ints (Si74.both (SR.clr t l))), di (Si74.ints (Si74.both M)), dp_ints (by rw [← vn_ints]; exact SqL.of hcc), dp_ints (by rw [← vn_ints]; exact SqL.of ((sm.trans sm6) _ _ hs)), di_shaped _, di_shaped _, _, rfl, ite2 (fun c2 => ?_) (fun c2 => ?_)⟩
          · rw [di_eqv, both_eq] at c2
            obtain ⟨bs, n3, fr3, e3, f3⟩ := RR.same sm6
            have len3 : bs.length ≤ 729 := by
              rw [rows_count f3]
              exact take_filter_len few
            have b3 : H6 b = some (.lst (vn l)) := ((sm4.trans sm).trans sm6) _ _ hbl
            refine ⟨_, rfl, _, e3, size_ok (by rw [List.length_map]; omega), ?_, ?_⟩
            · exact same_upd (sm.trans sm6) hdd
            · rw [take_snoc hl, List.filter_append, List.filter_cons, if_pos c2]
              exact RowsAt.push n3 fr3 f3 b3 (Ne.symm (ne_of_none (sm4 _ _ hbl) hdd)) (fr b hb)
          · rw [di_eqv, both_eq] at c2
            refine ⟨sm.trans sm6, ?_⟩
            rw [take_snoc hl, List.filter_append, List.filter_cons, if_neg c2]
            rw [List.filter_nil, List.append_nil]
            exact RR.same sm6
        · rintro H5 ⟨sm5, RR⟩
          rw [List.length_map, rows_count f, List.take_length, g1] at RR
          obtain ⟨bs, n5, fr5, e5, f5⟩ := RR
          obtain ⟨br, hbr, _, ebr⟩ := rows_head f5
          have s5 := s4.trans sm5
          have rowm : row ∈ t.plans := (List.mem_filter.mp (by rw [g1]; exact List.mem_cons_self)).1
          have rowl : row.length ≤ 8 := told_len o (SR.plans_sub rowm)
          refine ⟨by show 1 ≤ sizeLine; decide, fun y hy => ?_⟩
          have sy := same_new (o := .lst [V.int 0]) hy
          refine ⟨_, rfl, y, so, _, _, rfl, rfl, upd_same, sy _ _ (sm5 _ _ hs), by show 3 ≤ sizeLine; decide, fun p6 hp6 => ?_⟩
          have s6 := sy.trans (same_new (o := .lst ([V.int 0] ++ vn (Si74.both M))) hp6)
          refine ⟨_, rfl, dd, _, rfl, .inl (SqL.of (s6 _ _ e5)), by show 1 ≤ sizeLine; decide, fun y7 hy7 => ?_⟩
          have sy7 := same_new (o := .lst [V.int ((bs.map V.ref).length : Nat)]) hy7
          have s7 := s6.trans sy7
          refine ⟨p6, y7, _, _, rfl, rfl, sy7 _ _ upd_same, upd_same, by show 4 ≤ sizeLine; decide, fun p8 hp8 => ?_⟩
          have s8 := s7.trans (same_new (o := .lst ([V.int 0] ++ vn (Si74.both M) ++ [V.int ((bs.map V.ref).length : Nat)])) hp8)
          refine ⟨_, rfl, dd, _, _, _, rfl, rfl, SqL.of (s8 _ _ e5), atI_nat (j := 0) hbr, ?_⟩
          refine ⟨p8, br, _, _, rfl, rfl, upd_same, s8 _ _ ebr, Nat.le_of_lt (size_ok (by rw [vn_len]; show 4 + _ ≤ 1000; omega)), fun p9 hp9 => ?_⟩
          refine k.give S ((s5.trans s8).trans (same_new hp9)) rfl ((s5.trans s8).free hp9) ?_
          rw [upd_same, e]
          show _ = some (HO.lst (V.int 0 :: (Si74.ints _).map V.int))
          rw [← vn_ints, vn_app, List.length_map, rows_count f5, List.length_cons]
          rfl
/-! ### needs -/
def spNeeds (C : Addr) : Sp := fun vs H Q _ => ∃ (a : Addr) (n u v : Nat) (t : Service) (F : List Addr), vs = [.ref a, .int (n : Int), .int (u : Int), .int (v : Int)] ∧ SR.Ok t ∧ Svc C H a t F ∧ Does C t (.needs n u v) a F H Q
theorem ok_Service_needs (A : Alls K mg z) : FnOk P w K mg base CX0 4 z.f_Service_needs z.d_Service_needs ["self", "plough", "a", "b"] (spNeeds z.C_Service) := by
  have G_pl : FnOk P w K mg base CX0 3 z.f_Service_plans_that_can_be z.d_Service_plans_that_can_be ["self"] (spPlans z.C_Service) := ok_Service_plans_that_can_be A
  have G_sh : FnOk P w K mg base CX0 1 z.f_Service_shares_of z.d_Service_shares_of ["self", "plan"] (spShares K z.C_Service) := ok_Service_shares_of A
  have G_ot : FnOk P w K mg base CX0 2 z.f_Service_others_are_done z.d_Service_others_are_done ["self", "shares", "plough", "minutes"] (spOthers K z.C_Service) := ok_Service_others_are_done A
  have G_mi : FnOk P w K mg base CX0 1 z.f_is_minutes z.d_is_minutes ["number"] spMetres := ok_is_minutes A
  have G_lm : FnOk P w K mg base CX0 1 z.f_least_metres z.d_least_metres ["share", "a", "b"] spLeast := ok_least_metres A
  refine A.x_Service_needs.fn.ok sc_Service_needs (fun vs H Q E h => ?_) (fun cdv Ar outer s H vs Q E hr h => ?_)
  · obtain ⟨a, n, u, v, t, F, rfl, _⟩ := h
    rfl
  · obtain ⟨a, n, u, v, t, F, rfl, o, S, k⟩ := h
    refine ⟨_, (pss_cons (ps_if (pt_cmpR op_ge (pv 1) (pe_callB call_len_seq (by rfl) A.b_len bt_len (pa_cons (pe_fld (pv 0) rfl) pa_nil)) (nomark _))
      (pss_one (ps_ret (pe_lst (pa_cons (pe_gl rfl A.g_NOT_THERE) pa_nil))))
      pss_nil)
    (pss_cons (ps_if (PW.pt (pw_or (pt_not (pt_val (pe_call G_mi (hr.mono (by decide)) rfl A.x_is_minutes.m A.x_is_minutes.k A.x_is_minutes.b .nil pass0 (pa_cons (pv 2) pa_nil)))) (pw_or1 (pt_not (pt_val (pe_call G_mi (hr.mono (by decide)) rfl A.x_is_minutes.m A.x_is_minutes.k A.x_is_minutes.b .nil pass0 (pa_cons (pv 3) pa_nil)))))))
      (pss_one (ps_ret (pe_lst (pa_cons (pe_gl rfl A.g_WRONG_NUMBER) pa_nil))))
      pss_nil)
    (pss_cons (ps_set (i := 4) sc_Service_needs.nd rfl (Or.inl rfl) (pe_lst pa_nil))
    (pss_cons (ps_for PassesOwn.never rfl (pi_list (pe_meth0 (pv 0) A.cl_Service A.x_Service_plans_that_can_be.mt G_pl (hr.mono (by decide)) A.x_Service_plans_that_can_be.b .nil pass0)) (pg_name (i := 5) sc_Service_needs.nd rfl (Or.inl rfl))
      (pss_cons (ps_set (i := 6) sc_Service_needs.nd rfl (Or.inl rfl) (pe_meth (pv 0) A.cl_Service A.x_Service_shares_of.mt G_sh (hr.mono (by decide)) A.x_Service_shares_of.b .nil pass0 (pa_cons (pv 5) pa_nil)))
      (pss_one (ps_if (pt_val (pe_meth (pv 0) A.cl_Service A.x_Service_others_are_done.mt G_ot (hr.mono (by decide)) A.x_Service_others_are_done.b .nil pass0 (pa_cons (pv 6) (pa_cons (pv 1) (pa_cons (pe_lst (pa_cons (pv 2) (pa_cons (pv 3) pa_nil))) pa_nil)))))
        (pss_one (ps_expr (pe_bm PySem.F.plainAttrs_list PySem.F.slot_list_append PySem.F.type_list_append mt_append (pv 4) (pa_cons (pe_call G_lm (hr.mono (by decide)) rfl A.x_least_metres.m A.x_least_metres.k A.x_least_metres.b .nil pass0 (pa_cons (pe_ix ix_list (pv 6) (pv 1) (fun _ _ => rfl)) (pa_cons (pv 2) (pa_cons (pv 3) pa_nil)))) pa_nil))))
        pss_nil))))
    (pss_cons (ps_if (pt_cmpR (op_eqD (u64 hr)) (pv 4) (pe_lst pa_nil) (nomark _))
      (pss_one (ps_ret (pe_lst (pa_cons (pe_gl rfl A.g_NO_PLAN) pa_nil))))
      pss_nil)
    (pss_one (ps_ret (pe_lst (pa_cons (pe_callB (call_minL rfl) (by rfl) A.b_min bt_min (pa_cons (pv 4) pa_nil)) pa_nil))))))))), ?_⟩
    obtain ⟨dx, lp, ls, la, lt, SA, eF⟩ := id S
    have few := SR.plans_few o
    have e0 : step t (.needs n u v) = (if t.speeds.length ≤ n then (t, Si74.ok (-2)) else if u < 1 ∨ Si74.MOST < u ∨ v < 1 ∨ Si74.MOST < v then (t, Si74.ok (-1)) else (t, match t.needs n (u, v) with | none => Si74.ok (-6) | some m => Si74.ok ((m : Nat) : Int))) := rfl
    refine ⟨_, rfl, _, rfl, a, z.C_Service, dx, _, _, rfl, SA.obj, A.cl_Service, A.n_Service_ploughs, sf_p _ _ _ _, lp, _, rfl, .inl (SqL.of SA.sp), _, _, rfl, rfl, _, rfl, ite2 (fun c1 => ?_) (fun c1 => ?_)⟩
    · have c2 : t.speeds.length ≤ n := by
        have := of_decide_eq_true c1
        rw [vn_len] at this
        omega
      rw [if_pos c2] at e0
      refine ⟨by show 1 ≤ sizeLine; decide, fun p hp => ?_⟩
      have q := k.still S (Same.refl H) (by rw [e0]) hp
      rw [e0] at q
      exact q
    have c2 : n < t.speeds.length := by
      refine Nat.lt_of_not_le fun z => c1 (decide_eq_true ?_)
      rw [vn_len]
      omega
    rw [if_neg (Nat.not_le.mpr c2)] at e0
    have r1 : (isM (u : Int) = false ∨ isM (v : Int) = false) → ∀ p, H p = none → Q (.ref p) (upd H p (.lst [.int (-1)])) := fun c p hp => by
      rw [if_pos (by
        unfold Si74.MOST
        rcases c with c | c
        · have := isM_false c
          omega
        · have := isM_false c
          omega)] at e0
      have q := k.still S (Same.refl H) (by rw [e0]) hp
      rw [e0] at q
      exact q
    refine ⟨_, rfl, (u : Int), rfl, _, rfl, ite2 (fun c3 => iteT ?_) (fun c3 => ?_)⟩
    · rw [Bool.not_eq_true'] at c3
      exact ⟨by show 1 ≤ sizeLine; decide, fun p hp => r1 (.inl c3) p hp⟩
    refine ⟨_, rfl, (v : Int), rfl, _, rfl, ite2 (fun c4 => ?_) (fun c4 => ?_)⟩
    · rw [Bool.not_eq_true'] at c4
      exact ⟨by show 1 ≤ sizeLine; decide, fun p hp => r1 (.inr c4) p hp⟩
    have c3' : isM (u : Int) = true := by cases d : isM (u : Int) <;> simp_all
    have c4' : isM (v : Int) = true := by cases d : isM (v : Int) <;> simp_all
    have u1 := isM_true c3'
    have v1 := isM_true c4'
    rw [if_neg (by unfold Si74.MOST; omega)] at e0
    rw [SR.needs_enough] at e0
    refine ⟨by show 0 ≤ sizeLine; decide, fun en hen => ?_⟩
    have s0 := same_new (o := .lst []) hen
    refine ⟨_, rfl, a, dx, _, rfl, s0 _ _ SA.obj, rfl, ?_⟩
    refine ⟨a, t, F, rfl, o, S.same s0, fun H1 pp sm1 npp R => ?_⟩
    obtain ⟨as, nl, fr, ep, f⟩ := R
    have s1 := s0.trans sm1
    have nep : en ≠ pp := ne_of_none upd_same npp
    have nas : en ∉ as := fun z => by have := fr en z; rw [upd_same] at this; cases this
    refine ⟨pp, rfl, ⟨_, SqL.of ep⟩, for_list (xs := as.map V.ref) (fun i σ H' => ∃ v5 v6, σ = [some (.ref a), some (.int (n : Int)), some (.int (u : Int)), some (.int (v : Int)), some (.ref en), v5, v6] ∧ Same H H' ∧ H' pp = some (.lst (as.map V.ref)) ∧ (as.map H' = t.plans.map fun r => some (.lst (vn r))) ∧ H' en = some (.lst (vn (SR.enough t n (u, v) (t.plans.take i))))) ⟨none, none, rfl, s1, ep, f, sm1 _ _ upd_same⟩ ?_ ?_ ?_⟩
    · rintro i σ H' _ ⟨v5, v6, rfl, sm, e1, _⟩
      exact SqL.of e1
    · rintro i x σ H' hx ⟨v5, v6, rfl, sm, e1, f1, e2⟩
      obtain ⟨b, l, rfl, hb, hl, hbl⟩ := rows_get f1 hx
      have tl := SR.plans_sub (List.mem_of_getElem? hl)
      have l8 := told_len o tl
      have shl := SR.share_le o l n
      have few2 : (SR.enough t n (u, v) (t.plans.take i)).length ≤ 729 := Nat.le_trans (SR.enough_len _ _ _ _) (Nat.le_trans (List.length_take_le' _ _) few)
      refine ⟨_, rfl, a, dx, _, rfl, sm _ _ SA.obj, rfl, _, rfl, ?_⟩
      refine ⟨a, b, l, t, F, rfl, SqL.of hbl, tl, o, S.same sm, fun H3 sh sm3 nsh hsh => ?_⟩
      have s3 := sm.trans sm3
      refine ⟨_, rfl, a, dx, _, rfl, s3 _ _ SA.obj, rfl, _, rfl, _, rfl, _, rfl, _, rfl, by show 2 ≤ sizeLine; decide, fun y hy => ?_⟩
      have sy := same_new (o := .lst [V.int (u : Int), V.int (v : Int)]) hy
      have s4 := s3.trans sy
      refine ⟨a, sh, y, n, u, v, l, t, F, rfl, SqL.of (sy _ _ hsh), SqL.of upd_same, u1.2, l8, o, S.same s4, fun H5 sm5 => ⟨_, rfl, ite2 (fun c5 => ?_) (fun c5 => ?_)⟩⟩
      · have s35 := (sm3.trans sy).trans sm5
        have e5 := s35 _ _ e2
        refine ⟨_, rfl, .inl ⟨rfl, _, SqL.of e5⟩, _, rfl, _, rfl, sh, _, _, _, rfl, rfl, SqL.of ((sy.trans sm5) _ _ hsh), at_vn (SR.shares_at c2), _, rfl, _, rfl, ?_⟩
        refine ⟨t.share l n, u, v, rfl, u1.1, u1.2, by omega, en, _, _, rfl, rfl, e5, size_ok (by rw [vn_len]; omega), ?_⟩
        refine ⟨_, _, rfl, same_upd (sm.trans s35) hen, ?_, ?_, ?_⟩
        · rw [upd_ne (Ne.symm nep)]
          exact s35 _ _ e1
        · rw [map_upd nas]
          exact rows_same s35 _ _ f1
        · rw [upd_same, take_snoc hl, SR.enough_snoc, if_pos c5, vn_app]
          rfl
      · have s35 := (sm3.trans sy).trans sm5
        refine ⟨_, _, rfl, sm.trans s35, s35 _ _ e1, rows_same s35 _ _ f1, ?_⟩
        rw [take_snoc hl, SR.enough_snoc, if_neg c5, List.append_nil]
        exact s35 _ _ e2
    · rintro σ H' ⟨v5, v6, rfl, sm, e1, f1, e2⟩
      rw [List.length_map, rows_count f1, List.take_length] at e2
      generalize SR.enough t n (u, v) t.plans = L at e0 e2
      refine ⟨_, rfl, by show 0 ≤ sizeLine; decide, fun x hx => ?_⟩
      have sx := same_new (o := .lst []) hx
      have s2 := sm.trans sx
      have e3 := sx _ _ e2
      rw [vn_ints] at e3
      refine ⟨di (Si74.ints L), di [], dp_ints (SqL.of e3), dp_ints (l := []) (SqL.of upd_same), di_shaped _, di_shaped _, _, rfl, ite2 (fun c5 => ?_) (fun c5 => ?_)⟩
      · have eL : L = [] := by
          rw [di_nil] at c5
          cases L with
          | nil => rfl
          | cons p ps => cases c5
        rw [eL] at e0
        refine ⟨by show 1 ≤ sizeLine; decide, fun p hp => ?_⟩
        have q := k.still S s2 (by rw [e0]) hp
        rw [e0] at q
        exact q
      · have neL : 0 < (Si74.ints L).length := by
          rw [di_nil] at c5
          cases L with
          | nil => exact (c5 rfl).elim
          | cons p ps => exact Nat.succ_pos _
        refine ⟨_, rfl, en, Si74.ints L, rfl, SqL.of e3, neL, fun M hM hall => ?_⟩
        obtain ⟨m, hm, rfl⟩ := List.mem_map.mp hM
        have el : Si74.least L = some m := SR.least_of hm fun b hb => by
          have := hall (b : Int) (List.mem_map.mpr ⟨b, hb, rfl⟩)
          omega
        rw [el] at e0
        refine ⟨by show 1 ≤ sizeLine; decide, fun p hp => ?_⟩
        have q := k.still S s2 (by rw [e0]) hp
        rw [e0] at q
        exact q
end
end Pw
end
section
/-! One call after another. -/
set_option Elab.async false
set_option linter.all false
set_option maxRecDepth 100000
set_option maxHeartbeats 2000000
namespace Pw
open PySem PySem.Spec PyProof.Rows L2
open SR (Good enc run said after)
open Si74 (Service Call step)
section
variable {P : Program} {w : World} {K : PySem.W.Frag} {mg : Str → Option Value} {base : Heap} {z : Ads}
/-! ### call_length -/
def spLength (K : PySem.W.Frag) : Sp := fun vs H Q _ => ∃ (c : Addr) (pre post : List Int) (q : Call), vs = [.ref c, .int (pre.length : Int)] ∧ SqL K H c ((pre ++ (enc q ++ post)).map V.int) ∧ Q (.int ((enc q).length : Int)) H
theorem len_enc (l : List Nat) (x : Int) : ((x :: (l.length : Int) :: Si74.ints l).length : Int) = 2 + (l.length : Int) := by
  show (((Si74.ints l).length + 2 : Nat) : Int) = _
  unfold Si74.ints
  rw [List.length_map]
  omega
theorem ok_call_length (A : Alls K mg z) : FnOk P w K mg base CX0 1 z.f_call_length z.d_call_length ["calls", "at"] (spLength K) := by
  refine A.x_call_length.fn.ok sc_call_length (fun vs H Q E h => ?_) (fun cdv Ar outer s H vs Q E hr h => ?_)
  · obtain ⟨c, pre, post, q, rfl, _⟩ := h
    rfl
  · obtain ⟨c, pre, post, q, rfl, hc, k⟩ := h
    refine ⟨_, (pss_cons (ps_set (i := 2) sc_call_length.nd rfl (Or.inl rfl) (pe_ix ix_list (pv 0) (pv 1) (fun _ _ => rfl)))
    (pss_cons (ps_if (PW.pt (pw_or (pt_cmpR op_eq (pv 2) (pe_gl rfl A.g_BEGINS) (nomark _)) (pw_or1 (pt_cmpR op_eq (pv 2) (pe_gl rfl A.g_CHECK) (nomark _)))))
      (pss_one (ps_ret (pe_op op_add pe_int (pe_ix ix_list (pv 0) (pe_op op_add (pv 1) pe_int) (fun _ _ => rfl)))))
      pss_nil)
    (pss_cons (ps_if (pt_cmpR op_eq (pv 2) (pe_gl rfl A.g_STREET) (nomark _))
      (pss_one (ps_ret pe_int))
      pss_nil)
    (pss_cons (ps_if (PW.pt (pw_or (pt_cmpR op_eq (pv 2) (pe_gl rfl A.g_APART) (nomark _)) (pw_or1 (pt_cmpR op_eq (pv 2) (pe_gl rfl A.g_TOGETHER) (nomark _)))))
      (pss_one (ps_ret pe_int))
      pss_nil)
    (pss_cons (ps_if (pt_cmpR op_eq (pv 2) (pe_gl rfl A.g_NEEDS) (nomark _))
      (pss_one (ps_ret pe_int))
      pss_nil)
    (pss_one (ps_ret pe_int))))))), ?_⟩
    cases q with
    | begins l =>
      refine ⟨_, rfl, _, rfl, c, _, _, _, rfl, rfl, hc, at_mid (j := 0) rfl rfl, ?_⟩
      refine ⟨_, rfl, rfl, _, rfl, iteT (iteT ?_)⟩
      refine ⟨_, rfl, _, rfl, _, _, rfl, rfl, c, _, _, _, rfl, rfl, hc, at_mid (j := 1) rfl rfl, _, _, rfl, rfl, ?_⟩
      have e : ((enc (.begins l)).length : Int) = 2 + (l.length : Int) := len_enc l 0
      rw [e] at k
      exact k
    | street n =>
      refine ⟨_, rfl, _, rfl, c, _, _, _, rfl, rfl, hc, at_mid (j := 0) rfl rfl, ?_⟩
      refine ⟨_, rfl, rfl, _, rfl, iteF ⟨_, rfl, rfl, _, rfl, iteF ?_⟩⟩
      refine ⟨_, rfl, rfl, _, rfl, iteT ?_⟩
      exact k
    | apart i j =>
      refine ⟨_, rfl, _, rfl, c, _, _, _, rfl, rfl, hc, at_mid (j := 0) rfl rfl, ?_⟩
      refine ⟨_, rfl, rfl, _, rfl, iteF ⟨_, rfl, rfl, _, rfl, iteF ?_⟩⟩
      refine ⟨_, rfl, rfl, _, rfl, iteF ?_⟩
      refine ⟨_, rfl, rfl, _, rfl, iteT (iteT ?_)⟩
      exact k
    | together i j =>
      refine ⟨_, rfl, _, rfl, c, _, _, _, rfl, rfl, hc, at_mid (j := 0) rfl rfl, ?_⟩
      refine ⟨_, rfl, rfl, _, rfl, iteF ⟨_, rfl, rfl, _, rfl, iteF ?_⟩⟩
      refine ⟨_, rfl, rfl, _, rfl, iteF ?_⟩
      refine ⟨_, rfl, rfl, _, rfl, iteF ⟨_, rfl, rfl, _, rfl, iteT ?_⟩⟩
      exact k
    | check l =>
      refine ⟨_, rfl, _, rfl, c, _, _, _, rfl, rfl, hc, at_mid (j := 0) rfl rfl, ?_⟩
      refine ⟨_, rfl, rfl, _, rfl, iteF ⟨_, rfl, rfl, _, rfl, iteT ?_⟩⟩
      refine ⟨_, rfl, _, rfl, _, _, rfl, rfl, c, _, _, _, rfl, rfl, hc, at_mid (j := 1) rfl rfl, _, _, rfl, rfl, ?_⟩
      have e : ((enc (.check l)).length : Int) = 2 + (l.length : Int) := len_enc l 4
      rw [e] at k
      exact k
    | best =>
      refine ⟨_, rfl, _, rfl, c, _, _, _, rfl, rfl, hc, at_mid (j := 0) rfl rfl, ?_⟩
      refine ⟨_, rfl, rfl, _, rfl, iteF ⟨_, rfl, rfl, _, rfl, iteF ?_⟩⟩
      refine ⟨_, rfl, rfl, _, rfl, iteF ?_⟩
      refine ⟨_, rfl, rfl, _, rfl, iteF ⟨_, rfl, rfl, _, rfl, iteF ?_⟩⟩
      refine ⟨_, rfl, rfl, _, rfl, iteF ?_⟩
      exact k
    | needs n u v =>
      refine ⟨_, rfl, _, rfl, c, _, _, _, rfl, rfl, hc, at_mid (j := 0) rfl rfl, ?_⟩
      refine ⟨_, rfl, rfl, _, rfl, iteF ⟨_, rfl, rfl, _, rfl, iteF ?_⟩⟩
      refine ⟨_, rfl, rfl, _, rfl, iteF ?_⟩
      refine ⟨_, rfl, rfl, _, rfl, iteF ⟨_, rfl, rfl, _, rfl, iteF ?_⟩⟩
      refine ⟨_, rfl, rfl, _, rfl, iteT ?_⟩
      exact k
    | plain =>
      refine ⟨_, rfl, _, rfl, c, _, _, _, rfl, rfl, hc, at_mid (j := 0) rfl rfl, ?_⟩
      refine ⟨_, rfl, rfl, _, rfl, iteF ⟨_, rfl, rfl, _, rfl, iteF ?_⟩⟩
      refine ⟨_, rfl, rfl, _, rfl, iteF ?_⟩
      refine ⟨_, rfl, rfl, _, rfl, iteF ⟨_, rfl, rfl, _, rfl, iteF ?_⟩⟩
      refine ⟨_, rfl, rfl, _, rfl, iteF ?_⟩
      exact k
end

section
variable {P : Program} {w : World} {K : PySem.W.Frag} {mg : Str → Option Value} {base : Heap} {z : Ads}
/-! ### answer_call -/
def spCall (K : PySem.W.Frag) (C : Addr) : Sp := fun vs H Q _ => ∃ (a c : Addr) (q : Call) (t : Service) (F : List Addr), Good q ∧ vs = [.ref a, .ref c] ∧ SqL K H c ((enc q).map V.int) ∧ SR.Ok t ∧ Svc C H a t F ∧ t.apart.length ≤ 60 ∧ t.together.length ≤ 60 ∧ Does C t q a F H Q
theorem ok_answer_call (A : Alls K mg z) : FnOk P w K mg base CX0 5 z.f_answer_call z.d_answer_call ["service", "call"] (spCall K z.C_Service) := by
  have G_begin : FnOk P w K mg base CX0 2 z.f_Service_begin z.d_Service_begin ["self", "ploughs"] (spBegin K z.C_Service) := ok_Service_begin A
  have G_add_street : FnOk P w K mg base CX0 2 z.f_Service_add_street z.d_Service_add_street ["self", "long"] (spStreet z.C_Service) := ok_Service_add_street A
  have G_tell_apart : FnOk P w K mg base CX0 2 z.f_Service_tell_apart z.d_Service_tell_apart ["self", "street", "other"] (spTell z.C_Service .apart) := ok_Service_tell_apart A
  have G_tell_together : FnOk P w K mg base CX0 2 z.f_Service_tell_together z.d_Service_tell_together ["self", "street", "other"] (spTell z.C_Service .together) := ok_Service_tell_together A
  have G_check : FnOk P w K mg base CX0 3 z.f_Service_check z.d_Service_check ["self", "plan"] (spCheck K z.C_Service) := ok_Service_check A
  have G_best : FnOk P w K mg base CX0 4 z.f_Service_best z.d_Service_best ["self"] (spBest z.C_Service) := ok_Service_best A
  have G_needs : FnOk P w K mg base CX0 4 z.f_Service_needs z.d_Service_needs ["self", "plough", "a", "b"] (spNeeds z.C_Service) := ok_Service_needs A
  have G_plain : FnOk P w K mg base CX0 4 z.f_Service_plain z.d_Service_plain ["self"] (spPlain z.C_Service) := ok_Service_plain A
  refine A.x_answer_call.fn.ok sc_answer_call (fun vs H Q E h => ?_) (fun cdv Ar outer s H vs Q E hr h => ?_)
  · obtain ⟨a, c, q, t, F, _, rfl, _⟩ := h
    rfl
  · obtain ⟨a, c, q, t, F, gq, rfl, hc, o, S, l1, l2, k⟩ := h
    refine ⟨_, (pss_cons (ps_set (i := 2) sc_answer_call.nd rfl (Or.inl rfl) (pe_ix ix_list (pv 1) pe_int (fun _ _ => rfl)))
    (pss_cons (ps_if (pt_cmpR op_eq (pv 2) (pe_gl rfl A.g_BEGINS) (nomark _))
      (pss_one (ps_ret (pe_meth (pv 0) A.cl_Service A.x_Service_begin.mt G_begin (hr.mono (by decide)) A.x_Service_begin.b .nil pass0 (pa_cons (pe_slice sl_list (pv 1) (po_some pe_int) po_none) pa_nil))))
      pss_nil)
    (pss_cons (ps_if (pt_cmpR op_eq (pv 2) (pe_gl rfl A.g_STREET) (nomark _))
      (pss_one (ps_ret (pe_meth (pv 0) A.cl_Service A.x_Service_add_street.mt G_add_street (hr.mono (by decide)) A.x_Service_add_street.b .nil pass0 (pa_cons (pe_ix ix_list (pv 1) pe_int (fun _ _ => rfl)) pa_nil))))
      pss_nil)
    (pss_cons (ps_if (pt_cmpR op_eq (pv 2) (pe_gl rfl A.g_APART) (nomark _))
      (pss_one (ps_ret (pe_meth (pv 0) A.cl_Service A.x_Service_tell_apart.mt G_tell_apart (hr.mono (by decide)) A.x_Service_tell_apart.b .nil pass0 (pa_cons (pe_ix ix_list (pv 1) pe_int (fun _ _ => rfl)) (pa_cons (pe_ix ix_list (pv 1) pe_int (fun _ _ => rfl)) pa_nil)))))
      pss_nil)
    (pss_cons (ps_if (pt_cmpR op_eq (pv 2) (pe_gl rfl A.g_TOGETHER) (nomark _))
      (pss_one (ps_ret (pe_meth (pv 0) A.cl_Service A.x_Service_tell_together.mt G_tell_together (hr.mono (by decide)) A.x_Service_tell_together.b .nil pass0 (pa_cons (pe_ix ix_list (pv 1) pe_int (fun _ _ => rfl)) (pa_cons (pe_ix ix_list (pv 1) pe_int (fun _ _ => rfl)) pa_nil)))))
      pss_nil)
    (pss_cons (ps_if (pt_cmpR op_eq (pv 2) (pe_gl rfl A.g_CHECK) (nomark _))
      (pss_one (ps_ret (pe_meth (pv 0) A.cl_Service A.x_Service_check.mt G_check (hr.mono (by decide)) A.x_Service_check.b .nil pass0 (pa_cons (pe_slice sl_list (pv 1) (po_some pe_int) po_none) pa_nil))))
      pss_nil)
    (pss_cons (ps_if (pt_cmpR op_eq (pv 2) (pe_gl rfl A.g_BEST) (nomark _))
      (pss_one (ps_ret (pe_meth0 (pv 0) A.cl_Service A.x_Service_best.mt G_best (hr.mono (by decide)) A.x_Service_best.b .nil pass0)))
      pss_nil)
    (pss_cons (ps_if (pt_cmpR op_eq (pv 2) (pe_gl rfl A.g_NEEDS) (nomark _))
      (pss_one (ps_ret (pe_meth (pv 0) A.cl_Service A.x_Service_needs.mt G_needs (hr.mono (by decide)) A.x_Service_needs.b .nil pass0 (pa_cons (pe_ix ix_list (pv 1) pe_int (fun _ _ => rfl)) (pa_cons (pe_ix ix_list (pv 1) pe_int (fun _ _ => rfl)) (pa_cons (pe_ix ix_list (pv 1) pe_int (fun _ _ => rfl)) pa_nil))))))
      pss_nil)
    (pss_one (ps_ret (pe_meth0 (pv 0) A.cl_Service A.x_Service_plain.mt G_plain (hr.mono (by decide)) A.x_Service_plain.b .nil pass0))))))))))), ?_⟩
    obtain ⟨dx, fs, hob, nf⟩ := svc_obj S
    cases q with
    | begins l =>
      refine ⟨_, rfl, c, _, _, _, rfl, rfl, hc, at_vals (j := 0) rfl rfl, ?_⟩
      refine ⟨_, rfl, rfl, _, rfl, iteT ?_⟩
      refine ⟨_, rfl, a, dx, _, rfl, hob, nf _ (by decide +kernel) (by decide +kernel) (by decide +kernel) (by decide +kernel), ?_⟩
      refine ⟨_, rfl, _, rfl, c, _, rfl, hc, fun p hp => ?_⟩
      have e : cutV ((enc (.begins l)).map V.int) (some 2) none = vn l := by
        rw [show (2 : Int) = ((2 : Nat) : Int) from rfl, cut_end, vn_ints]
        rfl
      rw [e]
      have sm : Same H (upd H p (.lst (vn l))) := same_new hp
      exact ⟨a, p, l, t, F, rfl, SqL.of upd_same, gq.1, S.same sm, k.later S sm⟩
    | street n =>
      refine ⟨_, rfl, c, _, _, _, rfl, rfl, hc, at_vals (j := 0) rfl rfl, ?_⟩
      refine ⟨_, rfl, rfl, _, rfl, iteF ?_⟩
      refine ⟨_, rfl, rfl, _, rfl, iteT ?_⟩
      refine ⟨_, rfl, a, dx, _, rfl, hob, nf _ (by decide +kernel) (by decide +kernel) (by decide +kernel) (by decide +kernel), ?_⟩
      refine ⟨_, rfl, c, _, _, _, rfl, rfl, hc, at_vals (j := 1) rfl rfl, ?_⟩
      exact ⟨a, n, t, F, rfl, o, S, k⟩
    | apart i j =>
      refine ⟨_, rfl, c, _, _, _, rfl, rfl, hc, at_vals (j := 0) rfl rfl, ?_⟩
      refine ⟨_, rfl, rfl, _, rfl, iteF ?_⟩
      refine ⟨_, rfl, rfl, _, rfl, iteF ?_⟩
      refine ⟨_, rfl, rfl, _, rfl, iteT ?_⟩
      refine ⟨_, rfl, a, dx, _, rfl, hob, nf _ (by decide +kernel) (by decide +kernel) (by decide +kernel) (by decide +kernel), ?_⟩
      refine ⟨_, rfl, c, _, _, _, rfl, rfl, hc, at_vals (j := 1) rfl rfl, ?_⟩
      refine ⟨_, rfl, c, _, _, _, rfl, rfl, hc, at_vals (j := 2) rfl rfl, ?_⟩
      exact ⟨a, i, j, t, F, rfl, S, l1, l2, k⟩
    | together i j =>
      refine ⟨_, rfl, c, _, _, _, rfl, rfl, hc, at_vals (j := 0) rfl rfl, ?_⟩
      refine ⟨_, rfl, rfl, _, rfl, iteF ?_⟩
      refine ⟨_, rfl, rfl, _, rfl, iteF ?_⟩
      refine ⟨_, rfl, rfl, _, rfl, iteF ?_⟩
      refine ⟨_, rfl, rfl, _, rfl, iteT ?_⟩
      refine ⟨_, rfl, a, dx, _, rfl, hob, nf _ (by decide +kernel) (by decide +kernel) (by decide +kernel) (by decide +kernel), ?_⟩
      refine ⟨_, rfl, c, _, _, _, rfl, rfl, hc, at_vals (j := 1) rfl rfl, ?_⟩
      refine ⟨_, rfl, c, _, _, _, rfl, rfl, hc, at_vals (j := 2) rfl rfl, ?_⟩
      exact ⟨a, i, j, t, F, rfl, S, l1, l2, k⟩
    | check l =>
      refine ⟨_, rfl, c, _, _, _, rfl, rfl, hc, at_vals (j := 0) rfl rfl, ?_⟩
      refine ⟨_, rfl, rfl, _, rfl, iteF ?_⟩
      refine ⟨_, rfl, rfl, _, rfl, iteF ?_⟩
      refine ⟨_, rfl, rfl, _, rfl, iteF ?_⟩
      refine ⟨_, rfl, rfl, _, rfl, iteF ?_⟩
      refine ⟨_, rfl, rfl, _, rfl, iteT ?_⟩
      refine ⟨_, rfl, a, dx, _, rfl, hob, nf _ (by decide +kernel) (by decide +kernel) (by decide +kernel) (by decide +kernel), ?_⟩
      refine ⟨_, rfl, _, rfl, c, _, rfl, hc, fun p hp => ?_⟩
      have e : cutV ((enc (.check l)).map V.int) (some 2) none = vn l := by
        rw [show (2 : Int) = ((2 : Nat) : Int) from rfl, cut_end, vn_ints]
        rfl
      rw [e]
      have sm : Same H (upd H p (.lst (vn l))) := same_new hp
      exact ⟨a, p, l, t, F, rfl, SqL.of upd_same, gq.1, o, S.same sm, k.later S sm⟩
    | best =>
      refine ⟨_, rfl, c, _, _, _, rfl, rfl, hc, at_vals (j := 0) rfl rfl, ?_⟩
      refine ⟨_, rfl, rfl, _, rfl, iteF ?_⟩
      refine ⟨_, rfl, rfl, _, rfl, iteF ?_⟩
      refine ⟨_, rfl, rfl, _, rfl, iteF ?_⟩
      refine ⟨_, rfl, rfl, _, rfl, iteF ?_⟩
      refine ⟨_, rfl, rfl, _, rfl, iteF ?_⟩
      refine ⟨_, rfl, rfl, _, rfl, iteT ?_⟩
      refine ⟨_, rfl, a, dx, _, rfl, hob, nf _ (by decide +kernel) (by decide +kernel) (by decide +kernel) (by decide +kernel), ?_⟩
      exact ⟨a, t, F, rfl, o, S, k⟩
    | needs n u v =>
      refine ⟨_, rfl, c, _, _, _, rfl, rfl, hc, at_vals (j := 0) rfl rfl, ?_⟩
      refine ⟨_, rfl, rfl, _, rfl, iteF ?_⟩
      refine ⟨_, rfl, rfl, _, rfl, iteF ?_⟩
      refine ⟨_, rfl, rfl, _, rfl, iteF ?_⟩
      refine ⟨_, rfl, rfl, _, rfl, iteF ?_⟩
      refine ⟨_, rfl, rfl, _, rfl, iteF ?_⟩
      refine ⟨_, rfl, rfl, _, rfl, iteF ?_⟩
      refine ⟨_, rfl, rfl, _, rfl, iteT ?_⟩
      refine ⟨_, rfl, a, dx, _, rfl, hob, nf _ (by decide +kernel) (by decide +kernel) (by decide +kernel) (by decide +kernel), ?_⟩
      refine ⟨_, rfl, c, _, _, _, rfl, rfl, hc, at_vals (j := 1) rfl rfl, ?_⟩
      refine ⟨_, rfl, c, _, _, _, rfl, rfl, hc, at_vals (j := 2) rfl rfl, ?_⟩
      refine ⟨_, rfl, c, _, _, _, rfl, rfl, hc, at_vals (j := 3) rfl rfl, ?_⟩
      exact ⟨a, n, u, v, t, F, rfl, o, S, k⟩
    | plain =>
      refine ⟨_, rfl, c, _, _, _, rfl, rfl, hc, at_vals (j := 0) rfl rfl, ?_⟩
      refine ⟨_, rfl, rfl, _, rfl, iteF ?_⟩
      refine ⟨_, rfl, rfl, _, rfl, iteF ?_⟩
      refine ⟨_, rfl, rfl, _, rfl, iteF ?_⟩
      refine ⟨_, rfl, rfl, _, rfl, iteF ?_⟩
      refine ⟨_, rfl, rfl, _, rfl, iteF ?_⟩
      refine ⟨_, rfl, rfl, _, rfl, iteF ?_⟩
      refine ⟨_, rfl, rfl, _, rfl, iteF ?_⟩
      refine ⟨_, rfl, a, dx, _, rfl, hob, nf _ (by decide +kernel) (by decide +kernel) (by decide +kernel) (by decide +kernel), ?_⟩
      exact ⟨a, t, F, rfl, o, S, k⟩
end

section
variable {P : Program} {w : World} {K : PySem.W.Frag} {mg : Str → Option Value} {base : Heap} {z : Ads}
/-! ### answers -/
def spAns (K : PySem.W.Frag) : Sp := fun vs H Q _ => ∃ (c : Addr) (qs : List Call), vs = [.ref c] ∧ SqL K H c ((qs.flatMap enc).map V.int) ∧ (∀ q ∈ qs, Good q) ∧ qs.length ≤ 60 ∧
  ∀ (H' : Hp) (p : Addr), H' p = some (.lst ((run Si74.init qs).map V.int)) → Q (.ref p) H'
/-- between two turns: done is done, rest is left -/
def Turn (C : Addr) (H : Hp) (c x l : Addr) (qs : List Call) (m : Nat) (σ : L2.St) (H' : Hp) : Prop :=
  ∃ (done rest : List Call) (F : List Addr) (v4 v5 : Option V), qs = done ++ rest ∧ rest.length = m ∧ σ = [some (.ref c), some (.ref x), some (.ref l), some (.int (((done.flatMap enc).length : Nat) : Int)), v4, v5] ∧
    Svc C H' x (after Si74.init done) F ∧ (∀ b ∈ F, H b = none) ∧ Same H H' ∧ H' l = some (.lst ((run Si74.init done).map V.int)) ∧ l ∉ F ∧ H l = none
theorem ok_answers (A : Alls K mg z) : FnOk P w K mg base CX0 6 z.f_answers z.d_answers ["calls"] (spAns K) := by
  have G_init : FnOk P w K mg base CX0 1 z.f_Service_init z.d_Service_init ["self"] (spInit z.C_Service) := ok_Service_init A
  have G_length : FnOk P w K mg base CX0 1 z.f_call_length z.d_call_length ["calls", "at"] (spLength K) := ok_call_length A
  have G_call : FnOk P w K mg base CX0 5 z.f_answer_call z.d_answer_call ["service", "call"] (spCall K z.C_Service) := ok_answer_call A
  refine A.x_answers.fn.ok sc_answers (fun vs H Q E h => ?_) (fun cdv Ar outer s H vs Q E hr h => ?_)
  · obtain ⟨c, qs, rfl, _⟩ := h
    rfl
  · obtain ⟨c, qs, rfl, hc, gq, hq, k⟩ := h
    refine ⟨_, (pss_cons (ps_set (i := 1) sc_answers.nd rfl (Or.inl rfl) (pe_make0 A.mk_Service G_init (hr.mono (by decide)) rfl A.mg_Service A.x_Service_init.b .nil pass0))
    (pss_cons (ps_set (i := 2) sc_answers.nd rfl (Or.inl rfl) (pe_lst pa_nil))
    (pss_cons (ps_set (i := 3) sc_answers.nd rfl (Or.inl rfl) pe_int)
    (pss_cons (ps_while PassesOwn.never (pt_cmpR op_lt (pv 3) (pe_callB call_len_seq (by rfl) A.b_len bt_len (pa_cons (pv 0) pa_nil)) (nomark _))
      (pss_cons (ps_set (i := 4) sc_answers.nd rfl (Or.inl rfl) (pe_op op_add (pv 3) (pe_call G_length (hr.mono (by decide)) rfl A.x_call_length.m A.x_call_length.k A.x_call_length.b .nil pass0 (pa_cons (pv 0) (pa_cons (pv 3) pa_nil)))))
      (pss_cons (ps_set (i := 5) sc_answers.nd rfl (Or.inl rfl) (pe_call G_call (hr.mono (by decide)) rfl A.x_answer_call.m A.x_answer_call.k A.x_answer_call.b .nil pass0 (pa_cons (pv 1) (pa_cons (pe_slice sl_list (pv 0) (po_some (pv 3)) (po_some (pv 4))) pa_nil))))
      (pss_cons (ps_expr (pe_bm PySem.F.plainAttrs_list PySem.F.slot_list_append PySem.F.type_list_append mt_append (pv 2) (pa_cons (pe_callB call_len_seq (by rfl) A.b_len bt_len (pa_cons (pv 5) pa_nil)) pa_nil)))
      (pss_cons (ps_expr (pe_bm PySem.F.plainAttrs_list PySem.F.slot_list_extend PySem.F.type_list_extend mt_extend (pv 2) (pa_cons (pv 5) pa_nil)))
      (pss_one (ps_set (i := 3) sc_answers.nd rfl (Or.inl rfl) (pv 4))))))))
    (pss_one (ps_ret (pv 2))))))), ?_⟩
    intro x dx nx ndx nex
    refine ⟨x, dx, rfl, upd_same, (upd_ne nex).trans upd_same, fun H1 F0 S0 new0 kp0 => ⟨rfl, ?_⟩⟩
    have s0 : Same H H1 := fun b o e => kp0 b o (by rw [upd_ne (ne_of_none e nx), upd_ne (ne_of_none e ndx)]; exact e) (by simp; exact ne_of_none e nx)
    refine ⟨by show 0 ≤ sizeLine; decide, fun l hl => ?_⟩
    have s1 : Same H (upd H1 l (.lst [])) := s0.trans (same_new hl)
    refine ⟨fun m σ H' => Turn z.C_Service H c x l qs m σ H', ⟨qs.length, [], qs, F0, none, none, rfl, rfl, rfl, S0.same (same_new hl), fun b hb => ?_, s1, upd_same, S0.not_new hl, s0.free hl⟩, ?_⟩
    · rcases new0 b hb with rfl | z
      · exact nx
      · cases e : H b with
        | none => rfl
        | some o =>
          rw [upd_ne (ne_of_none e nx), upd_ne (ne_of_none e ndx), e] at z
          cases z
    rintro m σ H' ⟨done, rest, F, v4, v5, rfl, rfl, rfl, S, fr, sm, hl', nl, nlH⟩
    refine ⟨_, rfl, _, rfl, c, _, rfl, .inl (sm.seq hc), _, _, rfl, rfl, _, rfl, ite2 (fun cc => ?_) (fun cc => ?_)⟩
    · cases rest with
      | nil =>
        rw [List.append_nil, List.length_map] at cc
        exact (Int.lt_irrefl _ (of_decide_eq_true cc)).elim
      | cons q rest =>
        have efl : (done ++ q :: rest).flatMap enc = done.flatMap enc ++ (enc q ++ rest.flatMap enc) := by rw [List.flatMap_append, List.flatMap_cons]
        rw [efl] at hc
        have mq : q ∈ done ++ q :: rest := List.mem_append.mpr (.inr List.mem_cons_self)
        have hlen : done.length + (rest.length + 1) ≤ 60 := by
          rw [List.length_append, List.length_cons] at hq
          exact hq
        have okd : SR.Ok (after Si74.init done) := SR.ok_after SR.ok_init done
        have pd := SR.pairs_after done Si74.init
        have pa : (after Si74.init done).apart.length ≤ 60 := Nat.le_trans pd.1 (by show 0 + done.length ≤ 60; omega)
        have pt : (after Si74.init done).together.length ≤ 60 := Nat.le_trans pd.2 (by show 0 + done.length ≤ 60; omega)
        refine ⟨fun σ' H'' => ∃ m', m' < (q :: rest).length ∧ Turn z.C_Service H c x l (done ++ q :: rest) m' σ' H'', fun _ _ h => h, ?_⟩
        refine ⟨_, rfl, _, rfl, _, rfl, c, done.flatMap enc, rest.flatMap enc, q, rfl, sm.seq hc, _, _, rfl, rfl, ?_⟩
        refine ⟨_, rfl, _, rfl, _, rfl, _, rfl, _, rfl, _, rfl, c, _, rfl, sm.seq hc, fun p hp => ?_⟩
        rw [cut_mid rfl (by omega)]
        have sp : Same H' (upd H' p (.lst ((enc q).map V.int))) := same_new hp
        refine ⟨x, p, q, after Si74.init done, F, gq q mq, rfl, SqL.of upd_same, okd, S.same sp, pa, pt, fun H2 F2 r kp2 S2 new2 nr nF2 er => ?_⟩
        have hl2 : H2 l = some (.lst ((run Si74.init done).map V.int)) := kp2 _ _ (sp _ _ hl') nl
        have rl : r ≠ l := fun z => by rw [z, sp _ _ hl'] at nr; cases nr
        have rlen : ((run Si74.init done).map V.int).length ≤ 660 := by
          rw [List.length_map]
          have := SR.run_len done SR.ok_init
          omega
        have slen : ((said (step (after Si74.init done) q).2).map V.int).length ≤ 10 := by
          rw [List.length_map]
          exact SR.said_len okd q
        refine ⟨_, rfl, .inl ⟨rfl, _, SqL.of hl2⟩, _, rfl, r, _, rfl, .inl (SqL.of er), l, _, _, rfl, rfl, hl2, size_ok (by omega), ?_⟩
        refine ⟨_, rfl, .inl ⟨rfl, _, SqL.of upd_same⟩, _, rfl, l, r, _, _, rfl, rfl, upd_same, (upd_ne rl).trans er, ?_, ?_⟩
        · rw [List.length_append]
          exact Nat.le_of_lt (size_ok (by show _ + 1 + _ ≤ 1000; omega))
        have S3 := S2.frame (o := .lst ((run Si74.init done).map V.int ++ [V.int ((((said (step (after Si74.init done) q).2).map V.int).length : Nat) : Int)] ++ (said (step (after Si74.init done) q).2).map V.int)) hl2 (fun z => (new2 l z).elim nl fun z => by rw [sp _ _ hl'] at z; cases z)
        have smm : Same H H2 := fun b o e => kp2 b o (sp b o (sm b o e)) fun z => by rw [fr b z] at e; cases e
        rw [upd_upd]
        refine ⟨_, rfl, rest.length, by rw [List.length_cons]; omega, done ++ [q], rest, F2, some (.int (((done.flatMap enc).length : Int) + ((enc q).length : Int))), some (.ref r), by rw [List.append_assoc]; rfl, rfl, ?_, ?_, ?_, ?_, ?_, ?_, nlH⟩
        · have e : (((done ++ [q]).flatMap enc).length : Int) = ((done.flatMap enc).length : Int) + ((enc q).length : Int) := by
            rw [List.flatMap_append, List.length_append, List.flatMap_cons, List.flatMap_nil, List.append_nil]
            omega
          rw [e]
          rfl
        · rw [SR.after_snoc]
          exact S3
        · intro b hb
          rcases new2 b hb with z | z
          · exact fr b z
          · exact (sm.trans sp).free z
        · intro b o e
          rw [upd_ne (ne_of_none e nlH)]
          exact smm b o e
        · rw [upd_same, SR.run_snoc, List.map_append, List.map_cons, List.length_map, List.append_assoc]
          rfl
        · exact fun z => (new2 l z).elim nl fun z => by rw [sp _ _ hl'] at z; cases z
    · -- nothing is left
      cases rest with
      | cons q rest =>
        exact (cc (decide_eq_true (by
          rw [List.length_map, List.flatMap_append, List.length_append, List.flatMap_cons, List.length_append]
          have := SR.enc_pos q
          omega))).elim
      | nil =>
        rw [List.append_nil] at k
        exact ⟨_, rfl, k _ _ hl'⟩
end
end Pw
end
section
set_option Elab.async false
set_option linter.all false
set_option maxRecDepth 100000
section
set_option Elab.async false
set_option linter.all false
set_option maxRecDepth 100000
set_option maxHeartbeats 2000000
namespace L2
open PySem PySem.Spec PyProof.Rows
open PySem.W (WData Codec OpenSpec Well WellAll ReadsW ReadsAllW)
/-! ### an answer as data -/
mutual
/-- x stands for the datum d, lists and tuples all the way -/
inductive Dw (K : PySem.W.Frag) (H : Hp) : V → WData → Prop
  | non : Dw K H .non .none
  | bl (b : Bool) : Dw K H (.bl b) (.bool b)
  | int (i : Int) : Dw K H (.int i) (.int i)
  | str (x : Str) : Dw K H (.str x) (.str x)
  | byt (b : Array UInt8) : Dw K H (.byt b) (.bytes b.toList)
  | lst {a : Addr} {xs : List V} {ds : List WData} : SqL K H a xs → DwAll K H xs ds → Dw K H (.ref a) (.list ds)
  | tup {a : Addr} {xs : List V} {ds : List WData} : SqT K H a xs → DwAll K H xs ds → Dw K H (.ref a) (.tuple ds)
inductive DwAll (K : PySem.W.Frag) (H : Hp) : List V → List WData → Prop
  | nil : DwAll K H [] []
  | cons {v : V} {vs : List V} {d : WData} {ds : List WData} : Dw K H v d → DwAll K H vs ds → DwAll K H (v :: vs) (d :: ds)
end
theorem dw_ints {K : PySem.W.Frag} {H : Hp} : ∀ ns : List Int, DwAll K H (ns.map V.int) (ns.map WData.int)
  | [] => .nil
  | n :: r => .cons (.int n) (dw_ints r)
theorem ints_dw {K : PySem.W.Frag} {H : Hp} : ∀ (ns : List Int) (xs : List V), DwAll K H xs (ns.map WData.int) → xs = ns.map V.int
  | [], xs, h => by
    cases h
    rfl
  | n :: r, xs, h => by
    cases h with
    | cons h1 h2 =>
      cases h1
      rw [ints_dw r _ h2] <;> rfl
section
variable {P : Program} {w : World} {K : PySem.W.Frag} {H : Hp} {h : Heap} {R : PySem.W.WRecords} {cl : Str → Option Addr}
theorem sqL_at {a : Addr} {xs : List V} (hok : HOk P w H h) (KX : K.In h) (q : SqL K H a xs) : ∃ (its : List Value) (o : Obj) (n : Nat), Vals xs its ∧ h.get? a = some o ∧ o.cls = .type "list" ∧ o.data = .seq its.toArray n := by
  rcases q with q | ⟨o, its, n, e, hc, _, hd, _, hv⟩
  · obtain ⟨_, its, n, hv, e⟩ := (show ObjOk P w H h a (.lst xs) from q.ok hok)
    exact ⟨its, _, n, hv, e, rfl, rfl⟩
  · exact ⟨its.toList, o, n, hv, KX _ _ e, hc, by simp [hd]⟩
theorem sqT_at {a : Addr} {xs : List V} (hok : HOk P w H h) (KX : K.In h) (q : SqT K H a xs) : ∃ (its : List Value) (o : Obj) (n : Nat), Vals xs its ∧ h.get? a = some o ∧ o.cls = .type "tuple" ∧ o.data = .seq its.toArray n := by
  rcases q with q | ⟨o, its, n, e, hc, hd, _, hv⟩
  · obtain ⟨_, its, hv, o, e, hc, n, hd⟩ := (show ObjOk P w H h a (.tup xs) from q.ok hok)
    exact ⟨its, o, n, hv, e, hc, hd⟩
  · exact ⟨its.toList, o, n, hv, KX _ _ e, hc, by simp [hd]⟩
mutual
theorem Dw.reads (hok : HOk P w H h) (KX : K.In h) : ∀ (d : WData) (v : V) (u : Value), Dw K H v d → RelV v u → ∃ as, ReadsW R cl h u d as
  | .none, _, _, x, r => by
    cases x
    cases r
    exact ⟨_, ReadsW.none⟩
  | .bool b, _, _, x, r => by
    cases x
    cases r
    exact ⟨_, ReadsW.bool b⟩
  | .int i, _, _, x, r => by
    cases x
    obtain ⟨t, rfl⟩ := r
    exact ⟨_, ReadsW.int i t⟩
  | .str s, _, _, x, r => by
    cases x
    obtain ⟨t, rfl⟩ := r
    exact ⟨_, ReadsW.str s t⟩
  | .bytes b, _, _, x, r => by
    cases x
    obtain ⟨t, rfl⟩ := r
    exact ⟨_, ReadsW.bytes _ t⟩
  | .list ds, _, _, x, r => by
    cases x with
    | lst hs ha =>
      cases r
      obtain ⟨its, o, n, rv, ho, hc, hd⟩ := sqL_at hok KX hs
      obtain ⟨as, hr⟩ := Dw.readsAll hok KX ds _ its ha rv
      exact ⟨_, ReadsW.list ho hc hd hr⟩
  | .tuple ds, _, _, x, r => by
    cases x with
    | tup hs ha =>
      cases r
      obtain ⟨its, o, n, rv, ho, hc, hd⟩ := sqT_at hok KX hs
      obtain ⟨as, hr⟩ := Dw.readsAll hok KX ds _ its ha rv
      exact ⟨_, ReadsW.tuple ho hc hd hr⟩
  | .float _, _, _, x, _ => by cases x
  | .dict _, _, _, x, _ => by cases x
  | .bytearray _, _, _, x, _ => by cases x
  | .set _, _, _, x, _ => by cases x
  | .frozenset _, _, _, x, _ => by cases x
  | .obj _ _, _, _, x, _ => by cases x
theorem Dw.readsAll (hok : HOk P w H h) (KX : K.In h) : ∀ (ds : List WData) (vs : List V) (us : List Value), DwAll K H vs ds → Vals vs us → ∃ as, ReadsAllW R cl h us ds as
  | [], _, _, x, r => by
    cases x
    cases r
    exact ⟨_, ReadsAllW.nil⟩
  | d :: ds, _, _, x, r => by
    cases x with
    | cons h1 h2 =>
      cases r with
      | cons r1 r2 =>
        obtain ⟨as, q1⟩ := Dw.reads hok KX d _ _ h1 r1
        obtain ⟨bs, q2⟩ := Dw.readsAll hok KX ds _ _ h2 r2
        exact ⟨_, ReadsAllW.cons q1 q2⟩
end
end
/-! ### the arguments -/
mutual
/-- data that a codec tells -/
def plW : WData → Bool
  | .none => true
  | .bool _ => true
  | .int _ => true
  | .str _ => true
  | .bytes _ => true
  | .list xs => plWs xs
  | .tuple xs => plWs xs
  | _ => false
def plWs : List WData → Bool
  | [] => true
  | x :: r => plW x && plWs r
end
theorem plWs_map {α : Type} {f : α → WData} (h : ∀ a, plW (f a) = true) : ∀ l : List α, plWs (l.map f) = true
  | [] => rfl
  | x :: r => by
    show (plW (f x) && plWs (r.map f)) = true
    rw [h x, plWs_map h r] <;> rfl
theorem pl_enc : ∀ (c : Codec) (a : c.denote), plW (c.enc a) = true
  | .unit, _ => rfl
  | .bool, _ => rfl
  | .int _ _, _ => rfl
  | .nat _ _, _ => rfl
  | .u8, _ => rfl
  | .bytes _ _, _ => rfl
  | .text _ _ _ _, _ => rfl
  | .list _ _ c, a => plWs_map (fun x => pl_enc c x) a
  | .pair c d, a => by
    show (plW (c.enc a.1) && (plW (d.enc a.2) && true)) = true
    rw [pl_enc c a.1, pl_enc d a.2] <;> rfl
  | .triple c d e, a => by
    show (plW (c.enc a.1) && (plW (d.enc a.2.1) && (plW (e.enc a.2.2) && true))) = true
    rw [pl_enc c a.1, pl_enc d a.2.1, pl_enc e a.2.2] <;> rfl
  | .option c, none => rfl
  | .option c, some x => pl_enc c x
theorem pl_encAll : ∀ (cs : List Codec) (a : Codec.denoteAll cs), plWs (Codec.encAll cs a) = true
  | [], _ => rfl
  | c :: cs, a => by
    show (plW (c.enc a.1) && plWs (Codec.encAll cs a.2)) = true
    rw [pl_enc c a.1, pl_encAll cs a.2] <;> rfl
theorem weight_mem : ∀ {xs : List WData} {d : WData}, d ∈ xs → d.weight ≤ WData.weightAll xs
  | [], d, h => absurd h (by simp)
  | x :: r, d, h => by
    show d.weight ≤ x.weight + 1 + WData.weightAll r
    rcases List.mem_cons.mp h with e | m
    · rw [e]
      omega
    · have z := weight_mem m
      omega
def toV : Value → V
  | .none => .non
  | .bool b => .bl b
  | .int i _ => .int i
  | .str x _ => .str x
  | .bytes b _ => .byt b
  | .ref a => .ref a
  | _ => .non
/-- a value of the arguments, its objects among A -/
def OkU (A : List Addr) : Value → Prop
  | .none => True
  | .bool _ => True
  | .int _ _ => True
  | .str _ _ => True
  | .bytes _ _ => True
  | .ref a => a ∈ A
  | _ => False
theorem OkU.mono {A B : List Addr} (h : ∀ a ∈ A, a ∈ B) : ∀ {u : Value}, OkU A u → OkU B u := fun {u} x => by
  cases u with
  | ref a => exact h a x
  | none => trivial
  | bool b => trivial
  | int i t => trivial
  | str s t => trivial
  | bytes b t => trivial
  | _ => exact False.elim x
theorem relV_toV {A : List Addr} {u : Value} (x : OkU A u) : RelV (toV u) u := by
  cases u with
  | ref a => rfl
  | none => rfl
  | bool b => rfl
  | int i t => exact ⟨t, rfl⟩
  | str s t => exact ⟨t, rfl⟩
  | bytes b t => exact ⟨t, rfl⟩
  | _ => exact False.elim x
theorem vals_toV {A : List Addr} : ∀ {vs : List Value}, (∀ u ∈ vs, OkU A u) → Vals (vs.map toV) vs
  | [], _ => .nil
  | u :: r, h => .cons (relV_toV (h u (List.mem_cons_self ..))) (vals_toV fun x hx => h x (List.mem_cons_of_mem _ hx))
/-- an object of the arguments -/
def ArgOb (h : Heap) (A : List Addr) (a : Addr) : Prop := ∃ vs : List Value, vs.length ≤ sizeLine ∧ (∀ u ∈ vs, OkU A u) ∧
  (h.get? a = some { cls := .type "list", data := .seq vs.toArray } ∨ h.get? a = some { cls := .type "tuple", data := .seq vs.toArray })
theorem ArgOb.mono {h : Heap} {A B : List Addr} {a : Addr} (k : ∀ a ∈ A, a ∈ B) (x : ArgOb h A a) : ArgOb h B a := by
  obtain ⟨vs, h1, h2, h3⟩ := x
  exact ⟨vs, h1, fun u hu => (h2 u hu).mono k, h3⟩
theorem wellAll_len {P : Params} {h : Heap} : ∀ {vs : List Value} {ds : List WData}, WellAll P h vs ds → vs.length = ds.length
  | _, _, .nil => rfl
  | _, _, .cons _ b => by
    show _ + 1 = _ + 1
    rw [wellAll_len b]
theorem well_list {P : Params} {h : Heap} {v : Value} {ds : List WData} (x : Well P h v (.list ds)) : ∃ (a : Addr) (vs : List Value), v = .ref a ∧ h.get? a = some { cls := .type "list", data := .seq vs.toArray } ∧ WellAll P h vs ds := by
  cases x with
  | list ho hall => exact ⟨_, _, rfl, ho, hall⟩
theorem well_tuple {P : Params} {h : Heap} {v : Value} {ds : List WData} (x : Well P h v (.tuple ds)) : ∃ (a : Addr) (vs : List Value), v = .ref a ∧ h.get? a = some { cls := .type "tuple", data := .seq vs.toArray } ∧ WellAll P h vs ds := by
  cases x with
  | tuple ho hall => exact ⟨_, _, rfl, ho, hall⟩
theorem well_cons {P : Params} {h : Heap} {us : List Value} {d : WData} {ds : List WData} (x : WellAll P h us (d :: ds)) : ∃ (v : Value) (vs : List Value), us = v :: vs ∧ Well P h v d ∧ WellAll P h vs ds := by
  cases x with
  | cons a b => exact ⟨_, _, rfl, a, b⟩
theorem line_of {n : Nat} (h : n ≤ 1048576) : n ≤ sizeLine := Nat.le_trans h (by decide)
section
variable {P : Params} {h : Heap}
mutual
theorem area_one : ∀ (d : WData) (v : Value), Well P h v d → plW d = true → d.weight ≤ 1048576 → ∃ A : List Addr, OkU A v ∧ ∀ a ∈ A, ArgOb h A a
  | .none, _, x, _, _ => by
    cases x
    exact ⟨[], trivial, fun a m => absurd m (by simp)⟩
  | .bool b, _, x, _, _ => by
    cases x
    exact ⟨[], trivial, fun a m => absurd m (by simp)⟩
  | .int i, _, x, _, _ => by
    cases x
    exact ⟨[], trivial, fun a m => absurd m (by simp)⟩
  | .str s, _, x, _, _ => by
    cases x
    exact ⟨[], trivial, fun a m => absurd m (by simp)⟩
  | .bytes b, _, x, _, _ => by
    cases x
    exact ⟨[], trivial, fun a m => absurd m (by simp)⟩
  | .list ds, _, x, p, z => by
    obtain ⟨a, vs, rfl, ho, hall⟩ := well_list x
    have z2 : WData.weightAll ds ≤ 1048576 := z
    obtain ⟨A, h1, h2⟩ := area_all ds _ hall p fun d hd => Nat.le_trans (weight_mem hd) z2
    have k : ∀ b ∈ A, b ∈ a :: A := fun b hb => List.mem_cons_of_mem _ hb
    refine ⟨a :: A, List.mem_cons_self .., fun b hb => ?_⟩
    rcases List.mem_cons.mp hb with e | m
    · rw [e]
      exact ⟨vs, line_of (by rw [wellAll_len hall]; exact Nat.le_trans (PySem.W.length_le_weightAllW ds) z2), fun u hu => (h1 u hu).mono k, .inl ho⟩
    · exact (h2 b m).mono k
  | .tuple ds, _, x, p, z => by
    obtain ⟨a, vs, rfl, ho, hall⟩ := well_tuple x
    have z2 : WData.weightAll ds ≤ 1048576 := z
    obtain ⟨A, h1, h2⟩ := area_all ds _ hall p fun d hd => Nat.le_trans (weight_mem hd) z2
    have k : ∀ b ∈ A, b ∈ a :: A := fun b hb => List.mem_cons_of_mem _ hb
    refine ⟨a :: A, List.mem_cons_self .., fun b hb => ?_⟩
    rcases List.mem_cons.mp hb with e | m
    · rw [e]
      exact ⟨vs, line_of (by rw [wellAll_len hall]; exact Nat.le_trans (PySem.W.length_le_weightAllW ds) z2), fun u hu => (h1 u hu).mono k, .inr ho⟩
    · exact (h2 b m).mono k
  | .float _, _, _, p, _ => Bool.noConfusion (show false = true from p)
  | .dict _, _, _, p, _ => Bool.noConfusion (show false = true from p)
  | .bytearray _, _, _, p, _ => Bool.noConfusion (show false = true from p)
  | .set _, _, _, p, _ => Bool.noConfusion (show false = true from p)
  | .frozenset _, _, _, p, _ => Bool.noConfusion (show false = true from p)
  | .obj _ _, _, _, p, _ => Bool.noConfusion (show false = true from p)
theorem area_all : ∀ (ds : List WData) (vs : List Value), WellAll P h vs ds → plWs ds = true → (∀ d ∈ ds, d.weight ≤ 1048576) → ∃ A : List Addr, (∀ u ∈ vs, OkU A u) ∧ ∀ a ∈ A, ArgOb h A a
  | [], _, x, _, _ => by
    cases x
    exact ⟨[], fun u m => absurd m (by simp), fun a m => absurd m (by simp)⟩
  | d :: ds, _, x, p, z => by
    obtain ⟨v, vs, rfl, x1, x2⟩ := well_cons x
    have q : plW d = true ∧ plWs ds = true := Bool.and_eq_true_iff.mp p
    obtain ⟨A, a1, a2⟩ := area_one d v x1 q.1 (z d (List.mem_cons_self ..))
    obtain ⟨B, b1, b2⟩ := area_all ds vs x2 q.2 fun e he => z e (List.mem_cons_of_mem _ he)
    have kA : ∀ b ∈ A, b ∈ A ++ B := fun b hb => List.mem_append.mpr (.inl hb)
    have kB : ∀ b ∈ B, b ∈ A ++ B := fun b hb => List.mem_append.mpr (.inr hb)
    refine ⟨A ++ B, fun u hu => ?_, fun b hb => ?_⟩
    · rcases List.mem_cons.mp hu with e | m
      · rw [e]
        exact a1.mono kA
      · exact (b1 u m).mono kB
    · rcases List.mem_append.mp hb with m | m
      · exact (a2 b m).mono kA
      · exact (b2 b m).mono kB
end
end
/-- what is tracked of an argument's object -/
def hoOf (o : Obj) : Option HO := match o.data with
  | .seq vs _ => if (o.cls == Value.type "list") = true then some (.frz o (.lst (vs.toList.map toV))) else some (.frz o (.tup (vs.toList.map toV)))
  | _ => none
def argH (K : PySem.W.Frag) (h : Heap) (A : List Addr) : Hp := fun b => if b ∈ A then (if (K.lookup b).isNone = true then (h.get? b).bind hoOf else none) else none
/-- nothing is tracked but what is known to the object -/
def OnlyF (H : Hp) : Prop := ∀ b, H b = none ∨ ∃ o u, H b = some (.frz o u)
theorem hoOf_lst (vs : List Value) : hoOf { cls := .type "list", data := .seq vs.toArray } = some (.frz { cls := .type "list", data := .seq vs.toArray } (.lst (vs.map toV))) := by
  show (if (Value.type "list" == Value.type "list") = true then some (HO.frz { cls := .type "list", data := .seq vs.toArray } (.lst (vs.toArray.toList.map toV))) else some (HO.frz { cls := .type "list", data := .seq vs.toArray } (.tup (vs.toArray.toList.map toV)))) = _
  rw [if_pos (beq_self_eq_true _)]
theorem hoOf_tup (vs : List Value) : hoOf { cls := .type "tuple", data := .seq vs.toArray } = some (.frz { cls := .type "tuple", data := .seq vs.toArray } (.tup (vs.map toV))) := by
  show (if (Value.type "tuple" == Value.type "list") = true then some (HO.frz { cls := .type "tuple", data := .seq vs.toArray } (.lst (vs.toArray.toList.map toV))) else some (HO.frz { cls := .type "tuple", data := .seq vs.toArray } (.tup (vs.toArray.toList.map toV)))) = _
  rw [if_neg (by decide)]
section
variable {P : Program} {w : World} {K : PySem.W.Frag} {h : Heap} {A : List Addr}
theorem argH_at {b : Addr} {o : Obj} (hb : b ∈ A) (hk : K.lookup b = none) (e : h.get? b = some o) : argH K h A b = hoOf o := by
  unfold argH
  rw [if_pos hb, hk, if_pos (show (none : Option Obj).isNone = true from rfl), e] <;> rfl
theorem of_argH {b : Addr} {u : HO} (q : argH K h A b = some u) : b ∈ A ∧ K.lookup b = none := by
  unfold argH at q
  by_cases hb : b ∈ A
  · rw [if_pos hb] at q
    cases hk : K.lookup b with
    | none => exact ⟨hb, rfl⟩
    | some o =>
      rw [hk, if_neg (by simp)] at q
      cases q
  · rw [if_neg hb] at q
    cases q
/-- what stands tracked -/
theorem argH_is (ar : ∀ a ∈ A, ArgOb h A a) {b : Addr} {u : HO} (q : argH K h A b = some u) : K.lookup b = none ∧ ∃ vs : List Value, vs.length ≤ sizeLine ∧ (∀ u ∈ vs, OkU A u) ∧
    ((h.get? b = some { cls := .type "list", data := .seq vs.toArray } ∧ u = .frz { cls := .type "list", data := .seq vs.toArray } (.lst (vs.map toV))) ∨
     (h.get? b = some { cls := .type "tuple", data := .seq vs.toArray } ∧ u = .frz { cls := .type "tuple", data := .seq vs.toArray } (.tup (vs.map toV)))) := by
  obtain ⟨hb, hk⟩ := of_argH q
  obtain ⟨vs, h1, h2, h3⟩ := ar b hb
  refine ⟨hk, vs, h1, h2, ?_⟩
  rcases h3 with e | e
  · rw [argH_at hb hk e, hoOf_lst] at q
    exact .inl ⟨e, (Option.some.inj q).symm⟩
  · rw [argH_at hb hk e, hoOf_tup] at q
    exact .inr ⟨e, (Option.some.inj q).symm⟩
theorem argH_only (ar : ∀ a ∈ A, ArgOb h A a) : OnlyF (argH K h A) := fun b => by
  cases q : argH K h A b with
  | none => exact .inl rfl
  | some u =>
    obtain ⟨_, vs, _, _, ⟨_, e⟩ | ⟨_, e⟩⟩ := argH_is ar q
    · exact .inr ⟨_, _, by rw [e]⟩
    · exact .inr ⟨_, _, by rw [e]⟩
theorem argH_ok (ar : ∀ a ∈ A, ArgOb h A a) : HOk P w (argH K h A) h := fun b u q => by
  obtain ⟨_, vs, h1, h2, ⟨e, rfl⟩ | ⟨e, rfl⟩⟩ := argH_is ar q
  · exact ⟨e, by rw [List.length_map]; exact h1, vs, _, vals_toV h2, e⟩
  · exact ⟨e, by rw [List.length_map]; exact h1, vs, vals_toV h2, _, e, rfl, _, rfl⟩
theorem seq_inj {c c' : Value} {vs us : List Value} (e : (some { cls := c, data := .seq vs.toArray } : Option Obj) = some { cls := c', data := .seq us.toArray }) : c = c' ∧ vs = us := by
  have e1 := Option.some.inj e
  have e2 : c = c' := congrArg Obj.cls e1
  have e3 : Data.seq vs.toArray = Data.seq us.toArray := congrArg Obj.data e1
  injection e3 with e4
  refine ⟨e2, ?_⟩
  have e5 := congrArg Array.toList e4
  simpa using e5
/-- a list argument -/
theorem argL (KX : K.In h) (ar : ∀ a ∈ A, ArgOb h A a) {a : Addr} {vs : List Value} (ha : a ∈ A) (e : h.get? a = some { cls := .type "list", data := .seq vs.toArray }) : (∀ u ∈ vs, OkU A u) ∧ SqL K (argH K h A) a (vs.map toV) := by
  obtain ⟨us, h1, h2, h3⟩ := ar a ha
  have hu : us = vs := by
    rcases h3 with q | q
    · rw [e] at q
      exact (seq_inj q).2.symm
    · rw [e] at q
      exact absurd (Value.type.inj (seq_inj q).1) (by decide)
  subst hu
  refine ⟨h2, ?_⟩
  cases hk : K.lookup a with
  | none => exact .inl (.inr ⟨_, by rw [argH_at ha hk e, hoOf_lst]⟩)
  | some o =>
    have e2 := KX a o hk
    rw [e] at e2
    obtain rfl := Option.some.inj e2
    exact .inr ⟨_, us.toArray, _, hk, rfl, rfl, rfl, by rw [List.size_toArray]; exact h1, by simpa using vals_toV h2⟩
theorem argT (KX : K.In h) (ar : ∀ a ∈ A, ArgOb h A a) {a : Addr} {vs : List Value} (ha : a ∈ A) (e : h.get? a = some { cls := .type "tuple", data := .seq vs.toArray }) : (∀ u ∈ vs, OkU A u) ∧ SqT K (argH K h A) a (vs.map toV) := by
  obtain ⟨us, h1, h2, h3⟩ := ar a ha
  have hu : us = vs := by
    rcases h3 with q | q
    · rw [e] at q
      exact absurd (Value.type.inj (seq_inj q).1) (by decide)
    · rw [e] at q
      exact (seq_inj q).2.symm
  subst hu
  refine ⟨h2, ?_⟩
  cases hk : K.lookup a with
  | none => exact .inl (.inr ⟨_, by rw [argH_at ha hk e, hoOf_tup]⟩)
  | some o =>
    have e2 := KX a o hk
    rw [e] at e2
    obtain rfl := Option.some.inj e2
    exact .inr ⟨_, us.toArray, _, hk, rfl, rfl, by rw [List.size_toArray]; exact h1, by simpa using vals_toV h2⟩
mutual
theorem dw_one {Pm : Params} (KX : K.In h) (ar : ∀ a ∈ A, ArgOb h A a) : ∀ (d : WData) (v : Value), Well Pm h v d → plW d = true → OkU A v → Dw K (argH K h A) (toV v) d
  | .none, _, x, _, _ => by
    cases x
    exact .non
  | .bool b, _, x, _, _ => by
    cases x
    exact .bl b
  | .int i, _, x, _, _ => by
    cases x
    exact .int i
  | .str s, _, x, _, _ => by
    cases x
    exact .str s
  | .bytes b, _, x, _, _ => by
    cases x
    have z := Dw.byt (K := K) (H := argH K h A) b.toArray
    exact z
  | .list ds, _, x, p, hu => by
    obtain ⟨a, vs, rfl, ho, hall⟩ := well_list x
    obtain ⟨h2, hs⟩ := argL KX ar hu ho
    exact .lst hs (dw_all KX ar ds _ hall p h2)
  | .tuple ds, _, x, p, hu => by
    obtain ⟨a, vs, rfl, ho, hall⟩ := well_tuple x
    obtain ⟨h2, hs⟩ := argT KX ar hu ho
    exact .tup hs (dw_all KX ar ds _ hall p h2)
  | .float _, _, _, p, _ => Bool.noConfusion (show false = true from p)
  | .dict _, _, _, p, _ => Bool.noConfusion (show false = true from p)
  | .bytearray _, _, _, p, _ => Bool.noConfusion (show false = true from p)
  | .set _, _, _, p, _ => Bool.noConfusion (show false = true from p)
  | .frozenset _, _, _, p, _ => Bool.noConfusion (show false = true from p)
  | .obj _ _, _, _, p, _ => Bool.noConfusion (show false = true from p)
theorem dw_all {Pm : Params} (KX : K.In h) (ar : ∀ a ∈ A, ArgOb h A a) : ∀ (ds : List WData) (vs : List Value), WellAll Pm h vs ds → plWs ds = true → (∀ u ∈ vs, OkU A u) → DwAll K (argH K h A) (vs.map toV) ds
  | [], _, x, _, _ => by
    cases x
    exact .nil
  | d :: ds, _, x, p, hu => by
    obtain ⟨v, vs, rfl, x1, x2⟩ := well_cons x
    have q : plW d = true ∧ plWs ds = true := Bool.and_eq_true_iff.mp p
    exact .cons (dw_one KX ar d v x1 q.1 (hu _ (List.mem_cons_self ..))) (dw_all KX ar ds vs x2 q.2 fun u m => hu u (List.mem_cons_of_mem _ m))
end
end
/-! ### the call -/
theorem spec_call {P : Program} {w : World} {K : PySem.W.Frag} {mg mb : Str → Option Value} {CX : CXT} {k : Nat} {fa : Addr} {fd : FuncData} {ps : List Str} {sp : Sp} {s₁ : Shared} {vals : List Value} {ds : List WData} {R : PySem.W.WRecords} {cl : Str → Option Addr} {d0 : WData}
    (KX : K.In s₁.heap) (hns : s₁.heap.Ns mainGlobals mg) (hb : s₁.heap.Ns builtinsNs mb) (hbb : ∀ x : Str, x ≠ "__name__" → mb x = bootBuiltins x) (hlim : s₁.heap.NoLimit) (hg : s₁.gens = #[])
    (hwl : WellAll w.params s₁.heap vals ds) (hpl : plWs ds = true) (hwt : ∀ d ∈ ds, d.weight ≤ 1048576) (hr : Room k callerA)
    (F : ∀ base : Heap, K.In base → base.Ns mainGlobals mg → FnOk P w K mg base CX k fa fd ps sp) (hbind : ∀ (s : Shared) (us : List Value), us.length = ps.length → BindsTo s fd ⟨us, []⟩ (ps.zip us)) (hlen : ds.length = ps.length)
    (hsp : ∀ (H : Hp) (xs : List V), OnlyF H → DwAll K H xs ds → sp xs H (fun v H' => Dw K H' v d0) fun _ _ _ => False)
    (hCX : ∀ H e s', CX [] H s₁ (fun _ _ _ => False) e s' → False) :
    codeAny (model P w) callerA (.call (.ref fa) ⟨vals, []⟩) (fun r s' => ∃ u as, r = .ok (.ret u) ∧ ReadsW R cl s'.heap u d0 as ∧ OldK s₁.heap s'.heap ∧ s'.os = s₁.os ∧ AllBare s'.gens) s₁ := by
  obtain ⟨A, ho, ar⟩ := area_all ds vals hwl hpl hwt
  have hO : OnlyF (argH K s₁.heap A) := argH_only ar
  have hok : HOk P w (argH K s₁.heap A) s₁.heap := argH_ok ar
  have hS := dw_all KX ar ds vals hwl hpl ho
  have hV := vals_toV ho
  have hK : ∀ b u, argH K s₁.heap A b = some u → K.lookup b = none := fun b u q => (argH_is ar q).1
  have noA : ∀ {b : Addr} {o : Obj} {es : Array DictEntry} {ep : Nat}, s₁.heap.get? b = some o → o.data = .dict es ep → argH K s₁.heap A b = none := fun {b o es ep} e d => by
    cases q : argH K s₁.heap A b with
    | none => rfl
    | some u =>
      obtain ⟨_, vs, _, _, ⟨e2, _⟩ | ⟨e2, _⟩⟩ := argH_is ar q
      · rw [e2] at e
        cases e
        have d' : Data.seq vs.toArray _ = Data.dict es ep := d
        cases d'
      · rw [e2] at e
        cases e
        have d' : Data.seq vs.toArray _ = Data.dict es ep := d
        cases d'
  generalize argH K s₁.heap A = H at hO hok hS hK noA
  have base_of : ∀ {b : Addr} {o : Obj}, s₁.heap.get? b = some o → H b = none → (hidT s₁.heap H).get? b = some o := fun e n => hidT_get e n
  have nsK : ∀ {b : Addr} {m : Str → Option Value}, s₁.heap.Ns b m → (hidT s₁.heap H).Ns b m := fun {b m} ⟨o, es, ep, e, d, r⟩ => ⟨o, es, ep, base_of e (noA e d), d, r⟩
  have nK : ∀ b o, K.lookup b = some o → H b = none := fun b o e => by
    cases q : H b with
    | none => rfl
    | some u =>
      rw [hK b u q] at e
      cases e
  have hKb : K.In (hidT s₁.heap H) := fun b o e => base_of (KX b o e) (nK b o e)
  have hM : Mod K mg (hidT s₁.heap H) := ⟨hKb, nsK hns, ⟨mb, nsK hb, hbb⟩, let ⟨mc, h1, h2⟩ := hlim; ⟨mc, nsK h1, h2⟩⟩
  have e0 : Env0 P w K mg (hidT s₁.heap H) callerA [] s₁ H := ⟨rfl, hM, fun b o e => of_hidT e, Nat.le_of_eq (hidT_size _ _), trivial, fun b hb => absurd (show b ∈ ([] : List Addr) from hb) (by simp), hok, .of_eq hg⟩
  have hl : vals.length = ps.length := by rw [wellAll_len hwl]; exact hlen
  refine codeAny_mono ((F _ hKb (nsK hns)).run callerA [] s₁ H ⟨vals, []⟩ vals (vals.map toV) _ _ hr e0 (hbind s₁ vals hl) hV (hsp H _ hO hS)) fun r s' x => ?_
  cases r with
  | error e => exact (hCX H e s' x).elim
  | ok fl =>
    cases fl with
    | next => exact False.elim x
    | brk => exact False.elim x
    | cont => exact False.elim x
    | ret u =>
      obtain ⟨v, H', os, bare, un, hok', r', q⟩ := x
      have kept : ∀ b o, s₁.heap.get? b = some o → s'.heap.get? b = some o := fun b o e => by
        cases q2 : H b with
        | none => exact un.keep b o e q2 (by intro z; exact absurd (show b ∈ ([] : List Addr) from z) (by simp)) (by simp)
        | some u2 =>
          rcases hO b with z | ⟨ob, u3, z⟩
          · rw [q2] at z
            cases z
          · have z2 := un.frzs b ob _ z
            obtain ⟨e1, _⟩ := hok b _ z
            obtain ⟨e2, _⟩ := hok' b _ z2
            rw [e] at e1
            cases e1
            exact e2
      have KX' : K.In s'.heap := fun b o e => kept b o (KX b o e)
      obtain ⟨as, hrd⟩ := Dw.reads (R := R) (cl := cl) hok' KX' d0 v u q r'
      exact ⟨u, as, rfl, hrd, OldK.of_keep kept, os, bare⟩
/-! ### the row -/
theorem layable_weight {ds : List WData} (h : WData.layableAll ds = true) : ∀ d ∈ ds, d.weight ≤ 1048576 := fun d hd =>
  (PySem.W.layableW_iff.mp (List.all_eq_true.mp h d hd)).2.2
theorem encAll_len : ∀ (cs : List Codec) (a : Codec.denoteAll cs), (Codec.encAll cs a).length = cs.length
  | [], _ => rfl
  | c :: cs, a => by
    show (Codec.encAll cs a.2).length + 1 = cs.length + 1
    rw [encAll_len cs a.2]
/-- the goal that k_headS leaves (case hc), from the promise of the row's def: whatever the arguments that the codecs let and the row asks for, the def gives what stands for enc (f ..) -/
theorem walk_spec {r : OpenSpec} {k : Nat} {q : Program} {loose : List Str} {XP : (Str → Option Value) → Heap → Prop} {YP : World → Heap → Prop} {d : DefRec} {K : Params → PySem.W.Frag} {CX : World → CXT} {ps : List Str} {sp : World → Sp}
    (hwell : r.wellSaid = true) (hdf : d.params.defaults = []) (hlen : r.args.length = ps.length) (hr : Room k callerA)
    (hY : ∀ (w : World) (h : Heap), YP w h → (K w.params).In h)
    (F : ∀ (w : World) (mg : Str → Option Value) (fa : Addr) (h : Heap), YP w h → (K w.params).In h → h.Ns mainGlobals mg → mg d.name = some (.ref fa) →
      ∃ fd : FuncData, (∀ (s : Shared) (us : List Value), us.length = ps.length → BindsTo s fd ⟨us, []⟩ (ps.zip us)) ∧
        ∀ base : Heap, (K w.params).In base → base.Ns mainGlobals mg → FnOk r.prog w (K w.params) mg base (CX w) k fa fd ps (sp w))
    (hsp : ∀ (w : World) (H : Hp) (xs : List V) (a : Codec.denoteAll r.args), OnlyF H → Codec.withinAll r.args a = true → Codec.app r.args r.asked a = true → DwAll (K w.params) H xs (Codec.encAll r.args a) →
      sp w xs H (fun v H' => Dw (K w.params) H' v (r.ret.enc (Codec.app r.args r.f a))) fun _ _ _ => False)
    (hCX : ∀ (w : World) (H : Hp) (s : Shared) (e : Value) (s' : Shared), CX w [] H s (fun _ _ _ => False) e s' → False) :
    PySem.W.WalkOS q loose XP YP r d [] (fun f vs => PySem.call f vs) := by
  intro w s_0 s₁ mg mb G Y fa o pm cd doc dV kV ho hd hcd hD hmg hg args vals as hpre hlay hrd hwl hlo
  obtain ⟨a, e1, e2⟩ := PySem.W.os_pre_some hpre
  obtain ⟨e3, hwi⟩ := Codec.encAll_of_decAll r.args args a e1
  subst e3
  have KX := hY w _ Y
  obtain ⟨fd, hb, hF⟩ := F w mg fa _ Y KX G.T.g hmg
  refine PySem.W.enter_call (codeAny_mono (spec_call (R := []) (cl := classAt s_0.heap) (d0 := r.ret.enc (Codec.app r.args r.f a)) KX G.T.g G.T.b G.T.builtins G.T.nolimit hg hwl (pl_encAll _ _) (layable_weight hlay) hr hF hb (by rw [encAll_len]; exact hlen)
    (fun H xs hO hS => hsp w H xs a hO hwi e2 hS) fun H e s' => hCX w H s₁ e s') fun r' s' hq => ?_)
  obtain ⟨u, as', rfl, h1, h2, h3, h4⟩ := hq
  exact ⟨.inl ⟨u, _, as', rfl, fun _ => rfl, h1, (OpenSpec.post_iff hwell hwi _ _).mpr rfl, fun z => Bool.noConfusion (show false = true from z)⟩, h2, h3, h4⟩
/-- the same where the promise hangs on the written part alone -/
theorem walk_specK {r : OpenSpec} {k : Nat} {q : Program} {loose : List Str} {XP : (Str → Option Value) → Heap → Prop} {YP : World → Heap → Prop} {d : DefRec} {K : Params → PySem.W.Frag} {CX : CXT} {ps : List Str} {sp : PySem.W.Frag → Sp}
    (hwell : r.wellSaid = true) (hdf : d.params.defaults = []) (hlen : r.args.length = ps.length) (hr : Room k callerA)
    (hY : ∀ (w : World) (h : Heap), YP w h → (K w.params).In h)
    (F : ∀ (w : World) (mg : Str → Option Value) (fa : Addr) (h : Heap), YP w h → (K w.params).In h → h.Ns mainGlobals mg → mg d.name = some (.ref fa) →
      ∃ fd : FuncData, (∀ (s : Shared) (us : List Value), us.length = ps.length → BindsTo s fd ⟨us, []⟩ (ps.zip us)) ∧
        ∀ base : Heap, (K w.params).In base → base.Ns mainGlobals mg → FnOk r.prog w (K w.params) mg base CX k fa fd ps (sp (K w.params)))
    (hsp : ∀ (K : PySem.W.Frag) (H : Hp) (xs : List V) (a : Codec.denoteAll r.args), OnlyF H → Codec.withinAll r.args a = true → Codec.app r.args r.asked a = true → DwAll K H xs (Codec.encAll r.args a) →
      sp K xs H (fun v H' => Dw K H' v (r.ret.enc (Codec.app r.args r.f a))) fun _ _ _ => False)
    (hCX : ∀ (H : Hp) (s : Shared) (e : Value) (s' : Shared), CX [] H s (fun _ _ _ => False) e s' → False) :
    PySem.W.WalkOS q loose XP YP r d [] (fun f vs => PySem.call f vs) :=
  walk_spec (K := K) (CX := fun _ => CX) (sp := fun w => sp (K w.params)) hwell hdf hlen hr hY F (fun w H xs a h1 h2 h3 h4 => hsp (K w.params) H xs a h1 h2 h3 h4) fun _ H s e s' => hCX H s e s'
end L2
-- rests on (row put in by the clerk, for the bench that shows a file only what it spells): KE.SpHead KE.OsShapes
end
end
section
set_option Elab.async false
set_option linter.all false
set_option maxRecDepth 100000
set_option maxHeartbeats 2000000
namespace Pw
open PySem PySem.Spec PyProof.Rows L2
open PySem.W (Codec)
theorem all_mk {P : Program} {w : World} {K : PySem.W.Frag} {h : Heap} {mg : Str → Option Value} {fa C_Service f0 f1 f2 f3 f4 f5 f6 f7 f8 f9 f10 f11 f12 f13 f14 f15 f16 f17 f18 f19 f20 f21 f22 f23 f24 f25 f26 f27 : Addr} (X : K.In h) (G : h.Ns mainGlobals mg) (hfa : mg "answers" = some (.ref fa))
    {od0 an0 od1 an1 od2 an2 od3 an3 od4 an4 od5 an5 od6 an6 od7 an7 od8 an8 od9 an9 od10 an10 od11 an11 od12 an12 od13 an13 od14 an14 od15 an15 od16 an16 od17 an17 od18 an18 od19 an19 od20 an20 od21 an21 od22 an22 od23 an23 od24 an24 od25 an25 od26 an26 od27 an27 : Option Addr} {sl0 sl1 sl2 sl3 sl4 sl5 sl6 sl7 sl8 sl9 sl10 sl11 sl12 sl13 sl14 sl15 sl16 sl17 sl18 sl19 sl20 sl21 sl22 sl23 sl24 sl25 sl26 sl27 : Array (Option Value)} {oc0 kV0 dc0 pm0 cd0 ct0 oc1 kV1 dc1 pm1 cd1 ct1 oc2 kV2 dc2 pm2 cd2 ct2 oc3 kV3 dc3 pm3 cd3 ct3 oc4 kV4 dc4 pm4 cd4 ct4 oc5 kV5 dc5 pm5 cd5 ct5 oc6 kV6 dc6 pm6 cd6 ct6 oc7 kV7 dc7 pm7 cd7 ct7 oc8 kV8 dc8 pm8 cd8 ct8 oc9 kV9 dc9 pm9 cd9 ct9 oc10 kV10 dc10 pm10 cd10 ct10 oc11 kV11 dc11 pm11 cd11 ct11 oc12 kV12 dc12 pm12 cd12 ct12 oc13 kV13 dc13 pm13 cd13 ct13 oc14 kV14 dc14 pm14 cd14 ct14 oc15 kV15 dc15 pm15 cd15 ct15 oc16 kV16 dc16 pm16 cd16 ct16 oc17 kV17 dc17 pm17 cd17 ct17 oc18 kV18 dc18 pm18 cd18 ct18 oc19 kV19 dc19 pm19 cd19 ct19 oc20 kV20 dc20 pm20 cd20 ct20 oc21 kV21 dc21 pm21 cd21 ct21 oc22 kV22 dc22 pm22 cd22 ct22 oc23 kV23 dc23 pm23 cd23 ct23 oc24 kV24 dc24 pm24 cd24 ct24 oc25 kV25 dc25 pm25 cd25 ct25 oc26 kV26 dc26 pm26 cd26 ct26 oc27 kV27 dc27 pm27 cd27 ct27 : Value} {t_BEGINS t_STREET t_APART t_TOGETHER t_CHECK t_BEST t_NEEDS t_MOST_PLOUGHS t_MOST_METRES t_MOST_STREETS t_MOST_MINUTES t_DONE t_WRONG_NUMBER t_NOT_THERE t_SAME_OR_TOLD t_FULL t_NO_PLAN t_APART_BROKEN t_TOGETHER_BROKEN : Tok}
    (aC_Service : PySem.W.nsIn K mainGlobals "Service" = some (some (.ref C_Service)))
    (pg_Service : PySem.W.plainGet K C_Service Str.empty = true)
    (hd_Service : PySem.W.hasDictIn K C_Service = true)
    (po_Service : PySem.W.plainOver K C_Service = true)
    (sa_Service : PySem.W.findIn K (.ref C_Service) "__setattr__" = some (some (.builtin "object.__setattr__")))
    (mk_Service : PySem.W.makesIn K C_Service = true)
    (kc_Service : PySem.W.keepIn K (.ref C_Service) = true)
    (n_Service_ploughs : PySem.W.findIn K (.ref C_Service) "ploughs" = some none)
    (n_Service_streets : PySem.W.findIn K (.ref C_Service) "streets" = some none)
    (n_Service_apart_pairs : PySem.W.findIn K (.ref C_Service) "apart_pairs" = some none)
    (n_Service_together_pairs : PySem.W.findIn K (.ref C_Service) "together_pairs" = some none)
    (a0 : PySem.W.findIn K (.ref C_Service) "__init__" = some (some (.ref f0)))
    (i0 : PySem.W.isFn K (.ref f0) = true)
    (l0 : K.lookup f0 = some ⟨oc0, od0, .func (PySem.W.fnOf "__init__" "Service.__init__" (defArgs s_Service_init) (defBody s_Service_init) (defScope s_Service_init) .none kV0 dc0 pm0 an0 cd0 ct0), sl0⟩)
    (c0 : PySem.W.codeIn K cd0 "Service.__init__" = true)
    (k0 : PySem.W.keepIn K (.ref f0) = true)
    (a1 : PySem.W.findIn K (.ref C_Service) "begin" = some (some (.ref f1)))
    (i1 : PySem.W.isFn K (.ref f1) = true)
    (l1 : K.lookup f1 = some ⟨oc1, od1, .func (PySem.W.fnOf "begin" "Service.begin" (defArgs s_Service_begin) (defBody s_Service_begin) (defScope s_Service_begin) .none kV1 dc1 pm1 an1 cd1 ct1), sl1⟩)
    (c1 : PySem.W.codeIn K cd1 "Service.begin" = true)
    (k1 : PySem.W.keepIn K (.ref f1) = true)
    (a2 : PySem.W.findIn K (.ref C_Service) "add_street" = some (some (.ref f2)))
    (i2 : PySem.W.isFn K (.ref f2) = true)
    (l2 : K.lookup f2 = some ⟨oc2, od2, .func (PySem.W.fnOf "add_street" "Service.add_street" (defArgs s_Service_add_street) (defBody s_Service_add_street) (defScope s_Service_add_street) .none kV2 dc2 pm2 an2 cd2 ct2), sl2⟩)
    (c2 : PySem.W.codeIn K cd2 "Service.add_street" = true)
    (k2 : PySem.W.keepIn K (.ref f2) = true)
    (a3 : PySem.W.findIn K (.ref C_Service) "tell_apart" = some (some (.ref f3)))
    (i3 : PySem.W.isFn K (.ref f3) = true)
    (l3 : K.lookup f3 = some ⟨oc3, od3, .func (PySem.W.fnOf "tell_apart" "Service.tell_apart" (defArgs s_Service_tell_apart) (defBody s_Service_tell_apart) (defScope s_Service_tell_apart) .none kV3 dc3 pm3 an3 cd3 ct3), sl3⟩)
    (c3 : PySem.W.codeIn K cd3 "Service.tell_apart" = true)
    (k3 : PySem.W.keepIn K (.ref f3) = true)
    (a4 : PySem.W.findIn K (.ref C_Service) "tell_together" = some (some (.ref f4)))
    (i4 : PySem.W.isFn K (.ref f4) = true)
    (l4 : K.lookup f4 = some ⟨oc4, od4, .func (PySem.W.fnOf "tell_together" "Service.tell_together" (defArgs s_Service_tell_together) (defBody s_Service_tell_together) (defScope s_Service_tell_together) .none kV4 dc4 pm4 an4 cd4 ct4), sl4⟩)
    (c4 : PySem.W.codeIn K cd4 "Service.tell_together" = true)
    (k4 : PySem.W.keepIn K (.ref f4) = true)
    (a5 : PySem.W.findIn K (.ref C_Service) "tell_pair" = some (some (.ref f5)))
    (i5 : PySem.W.isFn K (.ref f5) = true)
    (l5 : K.lookup f5 = some ⟨oc5, od5, .func (PySem.W.fnOf "tell_pair" "Service.tell_pair" (defArgs s_Service_tell_pair) (defBody s_Service_tell_pair) (defScope s_Service_tell_pair) .none kV5 dc5 pm5 an5 cd5 ct5), sl5⟩)
    (c5 : PySem.W.codeIn K cd5 "Service.tell_pair" = true)
    (k5 : PySem.W.keepIn K (.ref f5) = true)
    (a6 : PySem.W.findIn K (.ref C_Service) "check" = some (some (.ref f6)))
    (i6 : PySem.W.isFn K (.ref f6) = true)
    (l6 : K.lookup f6 = some ⟨oc6, od6, .func (PySem.W.fnOf "check" "Service.check" (defArgs s_Service_check) (defBody s_Service_check) (defScope s_Service_check) .none kV6 dc6 pm6 an6 cd6 ct6), sl6⟩)
    (c6 : PySem.W.codeIn K cd6 "Service.check" = true)
    (k6 : PySem.W.keepIn K (.ref f6) = true)
    (a7 : PySem.W.findIn K (.ref C_Service) "best" = some (some (.ref f7)))
    (i7 : PySem.W.isFn K (.ref f7) = true)
    (l7 : K.lookup f7 = some ⟨oc7, od7, .func (PySem.W.fnOf "best" "Service.best" (defArgs s_Service_best) (defBody s_Service_best) (defScope s_Service_best) .none kV7 dc7 pm7 an7 cd7 ct7), sl7⟩)
    (c7 : PySem.W.codeIn K cd7 "Service.best" = true)
    (k7 : PySem.W.keepIn K (.ref f7) = true)
    (a8 : PySem.W.findIn K (.ref C_Service) "needs" = some (some (.ref f8)))
    (i8 : PySem.W.isFn K (.ref f8) = true)
    (l8 : K.lookup f8 = some ⟨oc8, od8, .func (PySem.W.fnOf "needs" "Service.needs" (defArgs s_Service_needs) (defBody s_Service_needs) (defScope s_Service_needs) .none kV8 dc8 pm8 an8 cd8 ct8), sl8⟩)
    (c8 : PySem.W.codeIn K cd8 "Service.needs" = true)
    (k8 : PySem.W.keepIn K (.ref f8) = true)
    (a9 : PySem.W.findIn K (.ref C_Service) "plain" = some (some (.ref f9)))
    (i9 : PySem.W.isFn K (.ref f9) = true)
    (l9 : K.lookup f9 = some ⟨oc9, od9, .func (PySem.W.fnOf "plain" "Service.plain" (defArgs s_Service_plain) (defBody s_Service_plain) (defScope s_Service_plain) .none kV9 dc9 pm9 an9 cd9 ct9), sl9⟩)
    (c9 : PySem.W.codeIn K cd9 "Service.plain" = true)
    (k9 : PySem.W.keepIn K (.ref f9) = true)
    (a10 : PySem.W.findIn K (.ref C_Service) "is_plan" = some (some (.ref f10)))
    (i10 : PySem.W.isFn K (.ref f10) = true)
    (l10 : K.lookup f10 = some ⟨oc10, od10, .func (PySem.W.fnOf "is_plan" "Service.is_plan" (defArgs s_Service_is_plan) (defBody s_Service_is_plan) (defScope s_Service_is_plan) .none kV10 dc10 pm10 an10 cd10 ct10), sl10⟩)
    (c10 : PySem.W.codeIn K cd10 "Service.is_plan" = true)
    (k10 : PySem.W.keepIn K (.ref f10) = true)
    (a11 : PySem.W.findIn K (.ref C_Service) "why_not" = some (some (.ref f11)))
    (i11 : PySem.W.isFn K (.ref f11) = true)
    (l11 : K.lookup f11 = some ⟨oc11, od11, .func (PySem.W.fnOf "why_not" "Service.why_not" (defArgs s_Service_why_not) (defBody s_Service_why_not) (defScope s_Service_why_not) .none kV11 dc11 pm11 an11 cd11 ct11), sl11⟩)
    (c11 : PySem.W.codeIn K cd11 "Service.why_not" = true)
    (k11 : PySem.W.keepIn K (.ref f11) = true)
    (a12 : PySem.W.findIn K (.ref C_Service) "can_be" = some (some (.ref f12)))
    (i12 : PySem.W.isFn K (.ref f12) = true)
    (l12 : K.lookup f12 = some ⟨oc12, od12, .func (PySem.W.fnOf "can_be" "Service.can_be" (defArgs s_Service_can_be) (defBody s_Service_can_be) (defScope s_Service_can_be) .none kV12 dc12 pm12 an12 cd12 ct12), sl12⟩)
    (c12 : PySem.W.codeIn K cd12 "Service.can_be" = true)
    (k12 : PySem.W.keepIn K (.ref f12) = true)
    (a13 : PySem.W.findIn K (.ref C_Service) "plans_that_can_be" = some (some (.ref f13)))
    (i13 : PySem.W.isFn K (.ref f13) = true)
    (l13 : K.lookup f13 = some ⟨oc13, od13, .func (PySem.W.fnOf "plans_that_can_be" "Service.plans_that_can_be" (defArgs s_Service_plans_that_can_be) (defBody s_Service_plans_that_can_be) (defScope s_Service_plans_that_can_be) .none kV13 dc13 pm13 an13 cd13 ct13), sl13⟩)
    (c13 : PySem.W.codeIn K cd13 "Service.plans_that_can_be" = true)
    (k13 : PySem.W.keepIn K (.ref f13) = true)
    (a14 : PySem.W.findIn K (.ref C_Service) "shares_of" = some (some (.ref f14)))
    (i14 : PySem.W.isFn K (.ref f14) = true)
    (l14 : K.lookup f14 = some ⟨oc14, od14, .func (PySem.W.fnOf "shares_of" "Service.shares_of" (defArgs s_Service_shares_of) (defBody s_Service_shares_of) (defScope s_Service_shares_of) .none kV14 dc14 pm14 an14 cd14 ct14), sl14⟩)
    (c14 : PySem.W.codeIn K cd14 "Service.shares_of" = true)
    (k14 : PySem.W.keepIn K (.ref f14) = true)
    (a15 : PySem.W.findIn K (.ref C_Service) "all_clear" = some (some (.ref f15)))
    (i15 : PySem.W.isFn K (.ref f15) = true)
    (l15 : K.lookup f15 = some ⟨oc15, od15, .func (PySem.W.fnOf "all_clear" "Service.all_clear" (defArgs s_Service_all_clear) (defBody s_Service_all_clear) (defScope s_Service_all_clear) .none kV15 dc15 pm15 an15 cd15 ct15), sl15⟩)
    (c15 : PySem.W.codeIn K cd15 "Service.all_clear" = true)
    (k15 : PySem.W.keepIn K (.ref f15) = true)
    (a16 : PySem.W.findIn K (.ref C_Service) "others_are_done" = some (some (.ref f16)))
    (i16 : PySem.W.isFn K (.ref f16) = true)
    (l16 : K.lookup f16 = some ⟨oc16, od16, .func (PySem.W.fnOf "others_are_done" "Service.others_are_done" (defArgs s_Service_others_are_done) (defBody s_Service_others_are_done) (defScope s_Service_others_are_done) .none kV16 dc16 pm16 an16 cd16 ct16), sl16⟩)
    (c16 : PySem.W.codeIn K cd16 "Service.others_are_done" = true)
    (k16 : PySem.W.keepIn K (.ref f16) = true)
    (a17 : PySem.W.findIn K (.ref C_Service) "street_by_street" = some (some (.ref f17)))
    (i17 : PySem.W.isFn K (.ref f17) = true)
    (l17 : K.lookup f17 = some ⟨oc17, od17, .func (PySem.W.fnOf "street_by_street" "Service.street_by_street" (defArgs s_Service_street_by_street) (defBody s_Service_street_by_street) (defScope s_Service_street_by_street) .none kV17 dc17 pm17 an17 cd17 ct17), sl17⟩)
    (c17 : PySem.W.codeIn K cd17 "Service.street_by_street" = true)
    (k17 : PySem.W.keepIn K (.ref f17) = true)
    (a18 : PySem.W.findIn K (.ref C_Service) "soonest_plough" = some (some (.ref f18)))
    (i18 : PySem.W.isFn K (.ref f18) = true)
    (l18 : K.lookup f18 = some ⟨oc18, od18, .func (PySem.W.fnOf "soonest_plough" "Service.soonest_plough" (defArgs s_Service_soonest_plough) (defBody s_Service_soonest_plough) (defScope s_Service_soonest_plough) .none kV18 dc18 pm18 an18 cd18 ct18), sl18⟩)
    (c18 : PySem.W.codeIn K cd18 "Service.soonest_plough" = true)
    (k18 : PySem.W.keepIn K (.ref f18) = true)
    (a19 : PySem.W.nsIn K mainGlobals "is_metres" = some (some (.ref f19)))
    (l19 : K.lookup f19 = some ⟨oc19, od19, .func (PySem.W.fnOf "is_metres" "is_metres" (defArgs s_is_metres) (defBody s_is_metres) (defScope s_is_metres) .none kV19 dc19 pm19 an19 cd19 ct19), sl19⟩)
    (c19 : PySem.W.codeIn K cd19 "is_metres" = true)
    (k19 : PySem.W.keepIn K (.ref f19) = true)
    (a20 : PySem.W.nsIn K mainGlobals "is_minutes" = some (some (.ref f20)))
    (l20 : K.lookup f20 = some ⟨oc20, od20, .func (PySem.W.fnOf "is_minutes" "is_minutes" (defArgs s_is_minutes) (defBody s_is_minutes) (defScope s_is_minutes) .none kV20 dc20 pm20 an20 cd20 ct20), sl20⟩)
    (c20 : PySem.W.codeIn K cd20 "is_minutes" = true)
    (k20 : PySem.W.keepIn K (.ref f20) = true)
    (a21 : PySem.W.nsIn K mainGlobals "is_less" = some (some (.ref f21)))
    (l21 : K.lookup f21 = some ⟨oc21, od21, .func (PySem.W.fnOf "is_less" "is_less" (defArgs s_is_less) (defBody s_is_less) (defScope s_is_less) .none kV21 dc21 pm21 an21 cd21 ct21), sl21⟩)
    (c21 : PySem.W.codeIn K cd21 "is_less" = true)
    (k21 : PySem.W.keepIn K (.ref f21) = true)
    (a22 : PySem.W.nsIn K mainGlobals "lowest_terms" = some (some (.ref f22)))
    (l22 : K.lookup f22 = some ⟨oc22, od22, .func (PySem.W.fnOf "lowest_terms" "lowest_terms" (defArgs s_lowest_terms) (defBody s_lowest_terms) (defScope s_lowest_terms) .none kV22 dc22 pm22 an22 cd22 ct22), sl22⟩)
    (c22 : PySem.W.codeIn K cd22 "lowest_terms" = true)
    (k22 : PySem.W.keepIn K (.ref f22) = true)
    (a23 : PySem.W.nsIn K mainGlobals "least_metres" = some (some (.ref f23)))
    (l23 : K.lookup f23 = some ⟨oc23, od23, .func (PySem.W.fnOf "least_metres" "least_metres" (defArgs s_least_metres) (defBody s_least_metres) (defScope s_least_metres) .none kV23 dc23 pm23 an23 cd23 ct23), sl23⟩)
    (c23 : PySem.W.codeIn K cd23 "least_metres" = true)
    (k23 : PySem.W.keepIn K (.ref f23) = true)
    (a24 : PySem.W.nsIn K mainGlobals "every_plan" = some (some (.ref f24)))
    (l24 : K.lookup f24 = some ⟨oc24, od24, .func (PySem.W.fnOf "every_plan" "every_plan" (defArgs s_every_plan) (defBody s_every_plan) (defScope s_every_plan) .none kV24 dc24 pm24 an24 cd24 ct24), sl24⟩)
    (c24 : PySem.W.codeIn K cd24 "every_plan" = true)
    (k24 : PySem.W.keepIn K (.ref f24) = true)
    (a25 : PySem.W.nsIn K mainGlobals "call_length" = some (some (.ref f25)))
    (l25 : K.lookup f25 = some ⟨oc25, od25, .func (PySem.W.fnOf "call_length" "call_length" (defArgs s_call_length) (defBody s_call_length) (defScope s_call_length) .none kV25 dc25 pm25 an25 cd25 ct25), sl25⟩)
    (c25 : PySem.W.codeIn K cd25 "call_length" = true)
    (k25 : PySem.W.keepIn K (.ref f25) = true)
    (a26 : PySem.W.nsIn K mainGlobals "answer_call" = some (some (.ref f26)))
    (l26 : K.lookup f26 = some ⟨oc26, od26, .func (PySem.W.fnOf "answer_call" "answer_call" (defArgs s_answer_call) (defBody s_answer_call) (defScope s_answer_call) .none kV26 dc26 pm26 an26 cd26 ct26), sl26⟩)
    (c26 : PySem.W.codeIn K cd26 "answer_call" = true)
    (k26 : PySem.W.keepIn K (.ref f26) = true)
    (a27 : PySem.W.nsIn K mainGlobals "answers" = some (some (.ref f27)))
    (l27 : K.lookup f27 = some ⟨oc27, od27, .func (PySem.W.fnOf "answers" "answers" (defArgs s_answers) (defBody s_answers) (defScope s_answers) .none kV27 dc27 pm27 an27 cd27 ct27), sl27⟩)
    (c27 : PySem.W.codeIn K cd27 "answers" = true)
    (k27 : PySem.W.keepIn K (.ref f27) = true)
    (b_all : PySem.W.nsIn K mainGlobals "all" = some none)
    (b_enumerate : PySem.W.nsIn K mainGlobals "enumerate" = some none)
    (b_len : PySem.W.nsIn K mainGlobals "len" = some none)
    (b_list : PySem.W.nsIn K mainGlobals "list" = some none)
    (b_max : PySem.W.nsIn K mainGlobals "max" = some none)
    (b_min : PySem.W.nsIn K mainGlobals "min" = some none)
    (b_range : PySem.W.nsIn K mainGlobals "range" = some none)
    (b_zip : PySem.W.nsIn K mainGlobals "zip" = some none)
    (g_BEGINS : PySem.W.nsIn K mainGlobals "BEGINS" = some (some (.int (0) t_BEGINS)))
    (g_STREET : PySem.W.nsIn K mainGlobals "STREET" = some (some (.int (1) t_STREET)))
    (g_APART : PySem.W.nsIn K mainGlobals "APART" = some (some (.int (2) t_APART)))
    (g_TOGETHER : PySem.W.nsIn K mainGlobals "TOGETHER" = some (some (.int (3) t_TOGETHER)))
    (g_CHECK : PySem.W.nsIn K mainGlobals "CHECK" = some (some (.int (4) t_CHECK)))
    (g_BEST : PySem.W.nsIn K mainGlobals "BEST" = some (some (.int (5) t_BEST)))
    (g_NEEDS : PySem.W.nsIn K mainGlobals "NEEDS" = some (some (.int (6) t_NEEDS)))
    (g_MOST_PLOUGHS : PySem.W.nsIn K mainGlobals "MOST_PLOUGHS" = some (some (.int (3) t_MOST_PLOUGHS)))
    (g_MOST_METRES : PySem.W.nsIn K mainGlobals "MOST_METRES" = some (some (.int (1000) t_MOST_METRES)))
    (g_MOST_STREETS : PySem.W.nsIn K mainGlobals "MOST_STREETS" = some (some (.int (6) t_MOST_STREETS)))
    (g_MOST_MINUTES : PySem.W.nsIn K mainGlobals "MOST_MINUTES" = some (some (.int (1000) t_MOST_MINUTES)))
    (g_DONE : PySem.W.nsIn K mainGlobals "DONE" = some (some (.int (0) t_DONE)))
    (g_WRONG_NUMBER : PySem.W.nsIn K mainGlobals "WRONG_NUMBER" = some (some (.int (-1) t_WRONG_NUMBER)))
    (g_NOT_THERE : PySem.W.nsIn K mainGlobals "NOT_THERE" = some (some (.int (-2) t_NOT_THERE)))
    (g_SAME_OR_TOLD : PySem.W.nsIn K mainGlobals "SAME_OR_TOLD" = some (some (.int (-4) t_SAME_OR_TOLD)))
    (g_FULL : PySem.W.nsIn K mainGlobals "FULL" = some (some (.int (-5) t_FULL)))
    (g_NO_PLAN : PySem.W.nsIn K mainGlobals "NO_PLAN" = some (some (.int (-6) t_NO_PLAN)))
    (g_APART_BROKEN : PySem.W.nsIn K mainGlobals "APART_BROKEN" = some (some (.int (-6) t_APART_BROKEN)))
    (g_TOGETHER_BROKEN : PySem.W.nsIn K mainGlobals "TOGETHER_BROKEN" = some (some (.int (-7) t_TOGETHER_BROKEN)))
    : ∃ fd : FuncData, (∀ (s : Shared) (us : List Value), us.length = (["calls"] : List Str).length → BindsTo s fd ⟨us, []⟩ ((["calls"] : List Str).zip us)) ∧ ∀ base : Heap, K.In base → base.Ns mainGlobals mg → FnOk P w K mg base CX0 6 fa fd ["calls"] (spAns K) := by
  have e := hfa.symm.trans (PySem.W.mg_of X G a27)
  cases e
  have F0 := fun_mk (st := s_Service_init) l0 c0 k0
  have F1 := fun_mk (st := s_Service_begin) l1 c1 k1
  have F2 := fun_mk (st := s_Service_add_street) l2 c2 k2
  have F3 := fun_mk (st := s_Service_tell_apart) l3 c3 k3
  have F4 := fun_mk (st := s_Service_tell_together) l4 c4 k4
  have F5 := fun_mk (st := s_Service_tell_pair) l5 c5 k5
  have F6 := fun_mk (st := s_Service_check) l6 c6 k6
  have F7 := fun_mk (st := s_Service_best) l7 c7 k7
  have F8 := fun_mk (st := s_Service_needs) l8 c8 k8
  have F9 := fun_mk (st := s_Service_plain) l9 c9 k9
  have F10 := fun_mk (st := s_Service_is_plan) l10 c10 k10
  have F11 := fun_mk (st := s_Service_why_not) l11 c11 k11
  have F12 := fun_mk (st := s_Service_can_be) l12 c12 k12
  have F13 := fun_mk (st := s_Service_plans_that_can_be) l13 c13 k13
  have F14 := fun_mk (st := s_Service_shares_of) l14 c14 k14
  have F15 := fun_mk (st := s_Service_all_clear) l15 c15 k15
  have F16 := fun_mk (st := s_Service_others_are_done) l16 c16 k16
  have F17 := fun_mk (st := s_Service_street_by_street) l17 c17 k17
  have F18 := fun_mk (st := s_Service_soonest_plough) l18 c18 k18
  have F19 := fun_mk (st := s_is_metres) l19 c19 k19
  have F20 := fun_mk (st := s_is_minutes) l20 c20 k20
  have F21 := fun_mk (st := s_is_less) l21 c21 k21
  have F22 := fun_mk (st := s_lowest_terms) l22 c22 k22
  have F23 := fun_mk (st := s_least_metres) l23 c23 k23
  have F24 := fun_mk (st := s_every_plan) l24 c24 k24
  have F25 := fun_mk (st := s_call_length) l25 c25 k25
  have F26 := fun_mk (st := s_answer_call) l26 c26 k26
  have F27 := fun_mk (st := s_answers) l27 c27 k27
  have B0 := F0.binds (ps := ["self"]) fun _ _ _ _ _ _ us hl => match us, hl with | [_], _ => rfl
  have B1 := F1.binds (ps := ["self", "ploughs"]) fun _ _ _ _ _ _ us hl => match us, hl with | [_, _], _ => rfl
  have B2 := F2.binds (ps := ["self", "long"]) fun _ _ _ _ _ _ us hl => match us, hl with | [_, _], _ => rfl
  have B3 := F3.binds (ps := ["self", "street", "other"]) fun _ _ _ _ _ _ us hl => match us, hl with | [_, _, _], _ => rfl
  have B4 := F4.binds (ps := ["self", "street", "other"]) fun _ _ _ _ _ _ us hl => match us, hl with | [_, _, _], _ => rfl
  have B5 := F5.binds (ps := ["self", "pairs", "street", "other"]) fun _ _ _ _ _ _ us hl => match us, hl with | [_, _, _, _], _ => rfl
  have B6 := F6.binds (ps := ["self", "plan"]) fun _ _ _ _ _ _ us hl => match us, hl with | [_, _], _ => rfl
  have B7 := F7.binds (ps := ["self"]) fun _ _ _ _ _ _ us hl => match us, hl with | [_], _ => rfl
  have B8 := F8.binds (ps := ["self", "plough", "a", "b"]) fun _ _ _ _ _ _ us hl => match us, hl with | [_, _, _, _], _ => rfl
  have B9 := F9.binds (ps := ["self"]) fun _ _ _ _ _ _ us hl => match us, hl with | [_], _ => rfl
  have B10 := F10.binds (ps := ["self", "plan"]) fun _ _ _ _ _ _ us hl => match us, hl with | [_, _], _ => rfl
  have B11 := F11.binds (ps := ["self", "plan"]) fun _ _ _ _ _ _ us hl => match us, hl with | [_, _], _ => rfl
  have B12 := F12.binds (ps := ["self", "plan"]) fun _ _ _ _ _ _ us hl => match us, hl with | [_, _], _ => rfl
  have B13 := F13.binds (ps := ["self"]) fun _ _ _ _ _ _ us hl => match us, hl with | [_], _ => rfl
  have B14 := F14.binds (ps := ["self", "plan"]) fun _ _ _ _ _ _ us hl => match us, hl with | [_, _], _ => rfl
  have B15 := F15.binds (ps := ["self", "plan"]) fun _ _ _ _ _ _ us hl => match us, hl with | [_, _], _ => rfl
  have B16 := F16.binds (ps := ["self", "shares", "plough", "minutes"]) fun _ _ _ _ _ _ us hl => match us, hl with | [_, _, _, _], _ => rfl
  have B17 := F17.binds (ps := ["self"]) fun _ _ _ _ _ _ us hl => match us, hl with | [_], _ => rfl
  have B18 := F18.binds (ps := ["self", "shares", "long"]) fun _ _ _ _ _ _ us hl => match us, hl with | [_, _, _], _ => rfl
  have B19 := F19.binds (ps := ["number"]) fun _ _ _ _ _ _ us hl => match us, hl with | [_], _ => rfl
  have B20 := F20.binds (ps := ["number"]) fun _ _ _ _ _ _ us hl => match us, hl with | [_], _ => rfl
  have B21 := F21.binds (ps := ["fraction", "other"]) fun _ _ _ _ _ _ us hl => match us, hl with | [_, _], _ => rfl
  have B22 := F22.binds (ps := ["fraction"]) fun _ _ _ _ _ _ us hl => match us, hl with | [_], _ => rfl
  have B23 := F23.binds (ps := ["share", "a", "b"]) fun _ _ _ _ _ _ us hl => match us, hl with | [_, _, _], _ => rfl
  have B24 := F24.binds (ps := ["street_count", "plough_count"]) fun _ _ _ _ _ _ us hl => match us, hl with | [_, _], _ => rfl
  have B25 := F25.binds (ps := ["calls", "at"]) fun _ _ _ _ _ _ us hl => match us, hl with | [_, _], _ => rfl
  have B26 := F26.binds (ps := ["service", "call"]) fun _ _ _ _ _ _ us hl => match us, hl with | [_, _], _ => rfl
  have B27 := F27.binds (ps := ["calls"]) fun _ _ _ _ _ _ us hl => match us, hl with | [_], _ => rfl
  have A : Alls K mg ⟨C_Service, _, _, _, _, _, _, _, _, _, _, _, _, _, _, _, _, _, _, _, _, _, _, _, _, _, _, _, _, _, _, _, _, _, _, _, _, _, _, _, _, _, _, _, _, _, _, _, _, _, _, _, _, _, _, _, _⟩ := ⟨⟨pg_Service, hd_Service, po_Service, sa_Service⟩, PySem.W.mg_of X G aC_Service, ⟨mk_Service, a0, i0, kc_Service⟩, n_Service_ploughs, n_Service_streets, n_Service_apart_pairs, n_Service_together_pairs, PySem.W.mg_none_of X G b_all, PySem.W.mg_none_of X G b_enumerate, PySem.W.mg_none_of X G b_len, PySem.W.mg_none_of X G b_list, PySem.W.mg_none_of X G b_max, PySem.W.mg_none_of X G b_min, PySem.W.mg_none_of X G b_range, PySem.W.mg_none_of X G b_zip, ⟨_, PySem.W.mg_of X G g_BEGINS, _, rfl⟩, ⟨_, PySem.W.mg_of X G g_STREET, _, rfl⟩, ⟨_, PySem.W.mg_of X G g_APART, _, rfl⟩, ⟨_, PySem.W.mg_of X G g_TOGETHER, _, rfl⟩, ⟨_, PySem.W.mg_of X G g_CHECK, _, rfl⟩, ⟨_, PySem.W.mg_of X G g_BEST, _, rfl⟩, ⟨_, PySem.W.mg_of X G g_NEEDS, _, rfl⟩, ⟨_, PySem.W.mg_of X G g_MOST_PLOUGHS, _, rfl⟩, ⟨_, PySem.W.mg_of X G g_MOST_METRES, _, rfl⟩, ⟨_, PySem.W.mg_of X G g_MOST_STREETS, _, rfl⟩, ⟨_, PySem.W.mg_of X G g_MOST_MINUTES, _, rfl⟩, ⟨_, PySem.W.mg_of X G g_DONE, _, rfl⟩, ⟨_, PySem.W.mg_of X G g_WRONG_NUMBER, _, rfl⟩, ⟨_, PySem.W.mg_of X G g_NOT_THERE, _, rfl⟩, ⟨_, PySem.W.mg_of X G g_SAME_OR_TOLD, _, rfl⟩, ⟨_, PySem.W.mg_of X G g_FULL, _, rfl⟩, ⟨_, PySem.W.mg_of X G g_NO_PLAN, _, rfl⟩, ⟨_, PySem.W.mg_of X G g_APART_BROKEN, _, rfl⟩, ⟨_, PySem.W.mg_of X G g_TOGETHER_BROKEN, _, rfl⟩, ⟨F0, B0, ⟨a0, i0, k0⟩⟩, ⟨F1, B1, ⟨a1, i1, k1⟩⟩, ⟨F2, B2, ⟨a2, i2, k2⟩⟩, ⟨F3, B3, ⟨a3, i3, k3⟩⟩, ⟨F4, B4, ⟨a4, i4, k4⟩⟩, ⟨F5, B5, ⟨a5, i5, k5⟩⟩, ⟨F6, B6, ⟨a6, i6, k6⟩⟩, ⟨F7, B7, ⟨a7, i7, k7⟩⟩, ⟨F8, B8, ⟨a8, i8, k8⟩⟩, ⟨F9, B9, ⟨a9, i9, k9⟩⟩, ⟨F10, B10, ⟨a10, i10, k10⟩⟩, ⟨F11, B11, ⟨a11, i11, k11⟩⟩, ⟨F12, B12, ⟨a12, i12, k12⟩⟩, ⟨F13, B13, ⟨a13, i13, k13⟩⟩, ⟨F14, B14, ⟨a14, i14, k14⟩⟩, ⟨F15, B15, ⟨a15, i15, k15⟩⟩, ⟨F16, B16, ⟨a16, i16, k16⟩⟩, ⟨F17, B17, ⟨a17, i17, k17⟩⟩, ⟨F18, B18, ⟨a18, i18, k18⟩⟩, ⟨F19, B19, PySem.W.mg_of X G a19⟩, ⟨F20, B20, PySem.W.mg_of X G a20⟩, ⟨F21, B21, PySem.W.mg_of X G a21⟩, ⟨F22, B22, PySem.W.mg_of X G a22⟩, ⟨F23, B23, PySem.W.mg_of X G a23⟩, ⟨F24, B24, PySem.W.mg_of X G a24⟩, ⟨F25, B25, PySem.W.mg_of X G a25⟩, ⟨F26, B26, PySem.W.mg_of X G a26⟩, ⟨F27, B27, PySem.W.mg_of X G a27⟩⟩
  exact ⟨_, fun s us hu => match us, hu with | [_], _ => .of_eq rfl, fun base _ _ => ok_answers A⟩
end Pw
end
section
open PySem PySem.W PyProof.Rows
set_option Elab.async false
set_option linter.all false
set_option maxRecDepth 100000 in
set_option maxHeartbeats 0 in
theorem PySem.Challenge.cw_snowploughs_s01_answers_holds : PySem.Challenge.rw_snowploughs_s01_answers.Holds := by
  w_on; k_headS; (case hw => exact ⟨[.list [.int 7]], by decide +kernel, by decide +kernel⟩)
  k_fillS
  refine L2.walk_specK (r := PySem.Challenge.rw_snowploughs_s01_answers) (k := 6) (CX := L2.CX0) (ps := ["calls"]) (sp := fun K => Pw.spAns K) (by decide +kernel) rfl rfl ⟨rfl, by decide, by decide⟩ (fun w h Y => PySem.W.kIn_of Y) ?F ?S (fun _ _ _ _ z => z)
  case F =>
    intro w mg fa h Y KX G hmg
    refine' Pw.all_mk KX G hmg ?aC_Service ?pg_Service ?hd_Service ?po_Service ?sa_Service ?mk_Service ?kc_Service ?n_Service_ploughs ?n_Service_streets ?n_Service_apart_pairs ?n_Service_together_pairs ?a0 ?i0 ?l0 ?c0 ?k0 ?a1 ?i1 ?l1 ?c1 ?k1 ?a2 ?i2 ?l2 ?c2 ?k2 ?a3 ?i3 ?l3 ?c3 ?k3 ?a4 ?i4 ?l4 ?c4 ?k4 ?a5 ?i5 ?l5 ?c5 ?k5 ?a6 ?i6 ?l6 ?c6 ?k6 ?a7 ?i7 ?l7 ?c7 ?k7 ?a8 ?i8 ?l8 ?c8 ?k8 ?a9 ?i9 ?l9 ?c9 ?k9 ?a10 ?i10 ?l10 ?c10 ?k10 ?a11 ?i11 ?l11 ?c11 ?k11 ?a12 ?i12 ?l12 ?c12 ?k12 ?a13 ?i13 ?l13 ?c13 ?k13 ?a14 ?i14 ?l14 ?c14 ?k14 ?a15 ?i15 ?l15 ?c15 ?k15 ?a16 ?i16 ?l16 ?c16 ?k16 ?a17 ?i17 ?l17 ?c17 ?k17 ?a18 ?i18 ?l18 ?c18 ?k18 ?a19 ?l19 ?c19 ?k19 ?a20 ?l20 ?c20 ?k20 ?a21 ?l21 ?c21 ?k21 ?a22 ?l22 ?c22 ?k22 ?a23 ?l23 ?c23 ?k23 ?a24 ?l24 ?c24 ?k24 ?a25 ?l25 ?c25 ?k25 ?a26 ?l26 ?c26 ?k26 ?a27 ?l27 ?c27 ?k27 ?b_all ?b_enumerate ?b_len ?b_list ?b_max ?b_min ?b_range ?b_zip ?g_BEGINS ?g_STREET ?g_APART ?g_TOGETHER ?g_CHECK ?g_BEST ?g_NEEDS ?g_MOST_PLOUGHS ?g_MOST_METRES ?g_MOST_STREETS ?g_MOST_MINUTES ?g_DONE ?g_WRONG_NUMBER ?g_NOT_THERE ?g_SAME_OR_TOLD ?g_FULL ?g_NO_PLAN ?g_APART_BROKEN ?g_TOGETHER_BROKEN
    (case aC_Service => k_is); (case pg_Service => k_is); (case hd_Service => k_is); (case po_Service => k_is); (case sa_Service => k_is); (case mk_Service => k_is); (case kc_Service => k_is); (case n_Service_ploughs => k_is); (case n_Service_streets => k_is); (case n_Service_apart_pairs => k_is); (case n_Service_together_pairs => k_is); (case a0 => k_is); (case i0 => k_is); (case l0 => k_is); (case c0 => k_is); (case k0 => k_is); (case a1 => k_is); (case i1 => k_is); (case l1 => k_is); (case c1 => k_is); (case k1 => k_is); (case a2 => k_is); (case i2 => k_is); (case l2 => k_is); (case c2 => k_is); (case k2 => k_is); (case a3 => k_is); (case i3 => k_is); (case l3 => k_is); (case c3 => k_is); (case k3 => k_is); (case a4 => k_is); (case i4 => k_is); (case l4 => k_is); (case c4 => k_is); (case k4 => k_is); (case a5 => k_is); (case i5 => k_is); (case l5 => k_is); (case c5 => k_is); (case k5 => k_is); (case a6 => k_is); (case i6 => k_is); (case l6 => k_is); (case c6 => k_is); (case k6 => k_is); (case a7 => k_is); (case i7 => k_is); (case l7 => k_is); (case c7 => k_is); (case k7 => k_is); (case a8 => k_is); (case i8 => k_is); (case l8 => k_is); (case c8 => k_is); (case k8 => k_is); (case a9 => k_is); (case i9 => k_is); (case l9 => k_is); (case c9 => k_is); (case k9 => k_is); (case a10 => k_is); (case i10 => k_is); (case l10 => k_is); (case c10 => k_is); (case k10 => k_is); (case a11 => k_is); (case i11 => k_is); (case l11 => k_is); (case c11 => k_is); (case k11 => k_is); (case a12 => k_is); (case i12 => k_is); (case l12 => k_is); (case c12 => k_is); (case k12 => k_is); (case a13 => k_is); (case i13 => k_is); (case l13 => k_is); (case c13 => k_is); (case k13 => k_is); (case a14 => k_is); (case i14 => k_is); (case l14 => k_is); (case c14 => k_is); (case k14 => k_is); (case a15 => k_is); (case i15 => k_is); (case l15 => k_is); (case c15 => k_is); (case k15 => k_is); (case a16 => k_is); (case i16 => k_is); (case l16 => k_is); (case c16 => k_is); (case k16 => k_is); (case a17 => k_is); (case i17 => k_is); (case l17 => k_is); (case c17 => k_is); (case k17 => k_is); (case a18 => k_is); (case i18 => k_is); (case l18 => k_is); (case c18 => k_is); (case k18 => k_is); (case a19 => k_is); (case l19 => k_is); (case c19 => k_is); (case k19 => k_is); (case a20 => k_is); (case l20 => k_is); (case c20 => k_is); (case k20 => k_is); (case a21 => k_is); (case l21 => k_is); (case c21 => k_is); (case k21 => k_is); (case a22 => k_is); (case l22 => k_is); (case c22 => k_is); (case k22 => k_is); (case a23 => k_is); (case l23 => k_is); (case c23 => k_is); (case k23 => k_is); (case a24 => k_is); (case l24 => k_is); (case c24 => k_is); (case k24 => k_is); (case a25 => k_is); (case l25 => k_is); (case c25 => k_is); (case k25 => k_is); (case a26 => k_is); (case l26 => k_is); (case c26 => k_is); (case k26 => k_is); (case a27 => k_is); (case l27 => k_is); (case c27 => k_is); (case k27 => k_is); (case b_all => k_is); (case b_enumerate => k_is); (case b_len => k_is); (case b_list => k_is); (case b_max => k_is); (case b_min => k_is); (case b_range => k_is); (case b_zip => k_is); (case g_BEGINS => k_is); (case g_STREET => k_is); (case g_APART => k_is); (case g_TOGETHER => k_is); (case g_CHECK => k_is); (case g_BEST => k_is); (case g_NEEDS => k_is); (case g_MOST_PLOUGHS => k_is); (case g_MOST_METRES => k_is); (case g_MOST_STREETS => k_is); (case g_MOST_MINUTES => k_is); (case g_DONE => k_is); (case g_WRONG_NUMBER => k_is); (case g_NOT_THERE => k_is); (case g_SAME_OR_TOLD => k_is); (case g_FULL => k_is); (case g_NO_PLAN => k_is); (case g_APART_BROKEN => k_is); (case g_TOGETHER_BROKEN => k_is)
  case S =>
    intro K H xs a hO hwi hask hx
    cases hx with
    | cons h1 h2 =>
      cases h2
      cases h1 with
      | lst hs ha =>
        have e := L2.ints_dw a.1 _ ha
        subst e
        have ask : PySi74.answers_asked a.1 = true := hask
        obtain ⟨qs, e1, e2, e3, e4⟩ := SR.asked_run ask
        refine ⟨_, qs, rfl, ?_, e2, e3, fun H' p hp => ?_⟩
        · rw [← e1]; exact hs
        · show L2.Dw K H' _ (.list ((PySi74.answers a.1).map WData.int))
          rw [e4]
          exact .lst (L2.SqL.of hp) (L2.dw_ints _)
end
