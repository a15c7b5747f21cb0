import PyProof.Rows.All
import Wide.All
import OpenK.AllK
import Wide.FinOn
import PyProof.EqAt
import PyProof.EqKinds
import PyProof.TupleCall
import KE.BitLaws
import Open.SpecLaws
import KE.OsHead
import KE.OsGo
import PyProof.SetScanFacts
import PyProof.SetKind
import PyProof.DictKinds
import PyProof.Walks
import PyProof.WalksS
import PyProof.Comp
import PyProof.FactsAll.set
import PyProof.ForAny
import PyProof.MakeMany
import PyProof.CollectWalk
import PyProof.Walk
import PyProof.WalkLemmas
import PyProof.Rows.SetFrom
import PyProof.ListRange
import PyProof.SetRoads
import PyProof.Rows.SortShellAny
import PySem.Challenge.RW_mergebases_s01_answers
section
set_option Elab.async false
set_option linter.all false
set_option maxRecDepth 100000
/-! THE HAND LAYER, for ints, bools, texts, own classes, lists, tuples, dicts, comprehensions, walks over dicts, enumerate, zip, reversed, texts, calls, loops. Paste it whole ahead of your own text; what your proof does not reach may be deleted. -/
namespace L2
open PySem PySem.Spec PyProof.Rows

/-- a key: an int or a str -/
abbrev Key := Sum Int Str
def keyIs : Key → Value → Bool
  | .inl k, v => Value.isInt k v
  | .inr x, v => Value.isStrOf x v
def keyH (w : World) : Key → Int
  | .inl k => hashInt k
  | .inr x => hashStr w x
theorem keyIs_shape : ∀ {k : Key} {v : Value}, keyIs k v = true → (∃ i t, k = Sum.inl i ∧ v = Value.int i t) ∨ (∃ x t, k = Sum.inr x ∧ v = Value.str x t)
  | .inl i, v, h => by
    obtain ⟨t, e⟩ := Value.isInt_shape (k := i) (v := v) h
    exact .inl ⟨i, t, rfl, e⟩
  | .inr x, v, h => by
    obtain ⟨t, e⟩ := Value.isStrOf_shape (x := x) (v := v) h
    exact .inr ⟨x, t, rfl, e⟩
theorem key_ll (a b : Int) : decide ((Sum.inl a : Key) = Sum.inl b) = (a == b) := by
  by_cases e : a = b
  · subst e; simp
  · have h : ¬ (Sum.inl a : Key) = Sum.inl b := fun q => e (Sum.inl.inj q)
    rw [decide_eq_false h]
    exact (beq_eq_false_iff_ne.mpr e).symm
theorem key_rr (a b : Str) : decide ((Sum.inr a : Key) = Sum.inr b) = decide (a = b) := by
  by_cases e : a = b
  · subst e; simp
  · have h : ¬ (Sum.inr a : Key) = Sum.inr b := fun q => e (Sum.inr.inj q)
    rw [decide_eq_false h, decide_eq_false e]
theorem key_lr (a : Int) (b : Str) : decide ((Sum.inl a : Key) = Sum.inr b) = false := decide_eq_false (fun q => nomatch q)
theorem key_rl (a : Str) (b : Int) : decide ((Sum.inr a : Key) = Sum.inl b) = false := decide_eq_false (fun q => nomatch q)

def mixKind (prog : Program) (w : World) : PySem.KeyKind prog w Key where
  is := keyIs
  hash := keyH w
  inj := fun v a b ha hb => by
    rcases keyIs_shape ha with ⟨i, t, rfl, rfl⟩ | ⟨x, t, rfl, rfl⟩
    · rcases keyIs_shape hb with ⟨j, u, rfl, e⟩ | ⟨y, u, rfl, e⟩
      · injection e with e1 _; rw [e1]
      · exact nomatch e
    · rcases keyIs_shape hb with ⟨j, u, rfl, e⟩ | ⟨y, u, rfl, e⟩
      · exact nomatch e
      · injection e with e1 _; rw [e1]
  byValue := fun k v h => by
    rcases keyIs_shape h with ⟨i, t, rfl, rfl⟩ | ⟨x, t, rfl, rfl⟩ <;> rfl
  pyHash := fun hv h => by
    rcases keyIs_shape hv with ⟨i, t, rfl, rfl⟩ | ⟨x, t, rfl, rfl⟩
    · exact wpAny_pyHash_int h
    · exact wpAny_pyHash_str h
  eqBool := fun hu hv h => by
    rcases keyIs_shape hu with ⟨i, t, rfl, rfl⟩ | ⟨x, t, rfl, rfl⟩
    · rcases keyIs_shape hv with ⟨j, u, rfl, rfl⟩ | ⟨y, u, rfl, rfl⟩
      · rw [key_ll] at h; exact wpAny_eqBool_int h
      · rw [key_lr] at h; exact SeqAt.EqAt.int_str i t y u _ _ _ _ h
    · rcases keyIs_shape hv with ⟨j, u, rfl, rfl⟩ | ⟨y, u, rfl, rfl⟩
      · rw [key_rl] at h; exact SeqAt.EqAt.str_int x t j u _ _ _ _ h
      · rw [key_rr] at h; exact wpAny_eqBool_str h
  «strs» := fun k x t v h => by
    rcases keyIs_shape h with ⟨i, u, rfl, e⟩ | ⟨y, u, rfl, e⟩
    · exact nomatch e
    · injection e with e1 _
      subst e1
      cases v <;> rfl

end L2

namespace L2
open PySem PySem.Spec PyProof.Rows

/-- a value, without the heap -/
inductive V where
  | non | bl (b : Bool) | int (i : Int) | str (x : Str) | byt (b : Array UInt8) | flt (b : UInt64) | ref (a : Addr) | ty (n : String)
  deriving DecidableEq

def RelV : V → Value → Prop
  | .non, u => u = Value.none
  | .bl b, u => u = Value.bool b
  | .int i, u => ∃ t, u = Value.int i t
  | .str x, u => ∃ t, u = Value.str x t
  | .byt b, u => ∃ t, u = Value.bytes b t
  | .flt b, u => ∃ t, u = Value.float b t
  | .ref a, u => u = Value.ref a
  | .ty n, u => u = Value.type n

abbrev Vals : List V → List Value → Prop := Paired RelV
theorem Vals.length {xs : List V} {us : List Value} (r : Vals xs us) : xs.length = us.length := Paired.length r
theorem Vals.get : ∀ {xs : List V} {us : List Value} {i : Nat} {x : V}, Vals xs us → xs[i]? = some x → ∃ u, us[i]? = some u ∧ RelV x u
  | _, _, _, _, .nil, e => by simp at e
  | _, _, 0, _, .cons r _, e => by simp at e; subst e; exact ⟨_, rfl, r⟩
  | _, _, i + 1, x, .cons _ t, e => by
    obtain ⟨u, h1, h2⟩ := Vals.get (i := i) (x := x) t (by simpa using e)
    exact ⟨u, by simpa using h1, h2⟩
theorem Vals.set {x : V} {u : Value} (r : RelV x u) : ∀ {xs : List V} {us : List Value} (i : Nat), Vals xs us → Vals (xs.set i x) (us.set i u)
  | _, _, _, .nil => .nil
  | _, _, 0, .cons _ t => .cons r t
  | _, _, i + 1, .cons q t => .cons q (Vals.set r i t)
theorem Vals.append : ∀ {xs ys : List V} {us ws : List Value}, Vals xs us → Vals ys ws → Vals (xs ++ ys) (us ++ ws)
  | _, _, _, _, .nil, s => s
  | _, _, _, _, .cons r t, s => .cons r (Vals.append t s)
theorem Vals.take : ∀ {xs : List V} {us : List Value} (n : Nat), Vals xs us → Vals (xs.take n) (us.take n)
  | _, _, 0, _ => .nil
  | _, _, _ + 1, .nil => .nil
  | _, _, n + 1, .cons r t => .cons r (Vals.take n t)
theorem Vals.drop : ∀ {xs : List V} {us : List Value} (n : Nat), Vals xs us → Vals (xs.drop n) (us.drop n)
  | _, _, 0, r => r
  | _, _, _ + 1, .nil => .nil
  | _, _, n + 1, .cons _ t => Vals.drop n t
def RelO : Option V → Option Value → Prop
  | some v, some u => RelV v u
  | none, none => True
  | _, _ => False
def KV {κ : Type} : List (κ × V) → List (κ × Value) → Prop := Paired fun (p : κ × V) (q : κ × Value) => p.1 = q.1 ∧ RelV p.2 q.2

/-- a key of a dict (00_mix): an int or a text -/
def kV : Key → V
  | .inl i => .int i
  | .inr x => .str x

/-- what stands at a tracked address -/
inductive HO where
  /-- a list -/
  | lst (xs : List V)
  /-- a tuple (never changes) -/
  | tup (xs : List V)
  /-- a dict whose keys are ints and texts; one whose keys are tuples of ints and texts (the empty one is both) -/
  | dK (kvs : List (Key × V)) | dT (kvs : List (List Key × V))
  /-- a set of ints: its members, its size -/
  | set (S : Int → Bool) (n : Nat)
  /-- an instance of the class at C, its dict at dx, its attributes -/
  | ins (C dx : Addr) (fs : List (Str × V))
  /-- the dict of the instance at x -/
  | own (x : Addr)
  /-- the dict of an exception -/
  | xd (fs : List (Str × V))
  /-- a bound method, f of x -/
  | met (f x : Addr)
  /-- a range object lo, lo + 1, .. below hi -/
  | rng (lo hi : Int)
  /-- a thing that is known to the object (the script; a dict while a loop walks it): read, never written while it is so -/
  | frz (o : Obj) (u : HO)
  /-- a code object's table -/
  | tbl (ps : Array Value)
  /-- any other thing, by what is true of its one object (a def of one's own: SetO a S n := HO.ext fun h => ..) -/
  | ext (φ : Heap → Prop)

abbrev Hp := Addr → Option HO
def upd (H : Hp) (a : Addr) (o : HO) : Hp := fun b => if b = a then some o else H b
theorem upd_same {H : Hp} {a : Addr} {o : HO} : upd H a o a = some o := by unfold upd; rw [if_pos rfl]
theorem upd_ne {H : Hp} {a b : Addr} {o : HO} (h : b ≠ a) : upd H a o b = H b := by unfold upd; rw [if_neg h]
theorem upd_upd {H : Hp} {a : Addr} {o u : HO} : upd (upd H a o) a u = upd H a u := by
  funext b; unfold upd; split <;> rfl
/-- two objects of different content stand apart -/
theorem ne_of {H : Hp} {a b : Addr} {o u : HO} (h : H a = some o) (h' : H b = some u) (d : o ≠ u) : a ≠ b := by
  intro e; subst e; rw [h] at h'; exact d (Option.some.inj h')
theorem ne_of_none {H : Hp} {a b : Addr} {o : HO} (h : H a = some o) (h' : H b = none) : a ≠ b := by
  intro e; subst e; rw [h] at h'; cases h'

section
variable (P : Program) (w : World)
def ObjOk (H : Hp) (h : Heap) (a : Addr) : HO → Prop
  | .lst xs => xs.length ≤ sizeLine ∧ ∃ (its : List Value) (n : Nat), Vals xs its ∧ h.get? a = some { cls := .type "list", data := .seq its.toArray n }
  | .tup xs => xs.length ≤ sizeLine ∧ ∃ its : List Value, Vals xs its ∧ IsTup h a its.toArray
  | .dK kvs => kvs.length ≤ sizeLine ∧ (a == sysModules) = false ∧ ∃ vs, KV kvs vs ∧ h.DictOf (mixKind P w) a vs
  | .dT kvs => kvs.length ≤ sizeLine ∧ (a == sysModules) = false ∧ ∃ xs : List (List Key × Addr × Value),
      Paired (fun (p : List Key × V) (q : List Key × Addr × Value) => p.1 = q.1 ∧ H q.2.1 = some (.tup (p.1.map kV)) ∧ RelV p.2 q.2.2) kvs xs ∧
      ∃ o es ep, h.get? a = some o ∧ o.ExactDict ∧ o.data = .dict es ep ∧ es.toList = xs.map (entryOfKey (tupleKind (mixKind P w))) ∧ (xs.map (·.1)).Nodup
  | .set S n => h.SetOf (intKind P w) a S n
  | .ins C dx fs => H dx = some (.own a) ∧ fs.length ≤ 1000 ∧ dx ≠ a ∧ h.get? a = some (PySem.W.instObj C dx) ∧
      ∃ mA, h.Ns1 dx mA ∧ (∀ f, RelO (fs.lookup f) (mA f)) ∧ PySem.Within mA (fs.map (·.1))
  | .own _ => ∃ o, h.get? a = some o
  | .xd fs => ∃ mA, h.Ns1 a mA ∧ ∀ f, RelO (fs.lookup f) (mA f)
  | .rng lo hi => ∃ t u v, h.get? a = some { cls := .type "range", data := .fields #[.int lo t, .int hi u, .int 1 v] }
  | .frz o u => h.get? a = some o ∧ ObjOk H h a u
  | .tbl ps => h.get? a = some { cls := .none, data := .fields ps }
  | .met f x => h.get? a = some (PySem.W.methodObj (.ref f) (.ref x))
  | .ext φ => φ h ∧ (∃ o, h.get? a = some o) ∧ ∀ h1 h2 : Heap, φ h1 → (∀ o, h1.get? a = some o → h2.get? a = some o) → φ h2
/-- the abstract heap is held -/
def HOk (H : Hp) (h : Heap) : Prop := ∀ a o, H a = some o → ObjOk P w H h a o
end

section
variable {P : Program} {w : World} {H H' : Hp} {h h' : Heap} {a : Addr} {o : HO}
theorem ObjOk.lt (x : ObjOk P w H h a o) : a < h.objs.size := by
  cases o with
  | lst xs => obtain ⟨_, _, _, _, e⟩ := x; exact Heap.lt_size e
  | tup xs => obtain ⟨_, _, _, p⟩ := x; exact p.lt
  | dK kvs => obtain ⟨_, _, _, _, o, _, _, e, _⟩ := x; exact Heap.lt_size e
  | dT kvs => obtain ⟨_, _, _, _, o, _, _, e, _⟩ := x; exact Heap.lt_size e
  | set S n => obtain ⟨o, _, _, _, e, _⟩ := x; exact Heap.lt_size e
  | ins C dx fs => obtain ⟨_, _, _, e, _⟩ := x; exact Heap.lt_size e
  | own y => obtain ⟨_, e⟩ := x; exact Heap.lt_size e
  | xd fs => obtain ⟨_, ⟨_, _, _, e, _⟩, _⟩ := x; exact Heap.lt_size e
  | rng lo hi => obtain ⟨_, _, _, e⟩ := x; exact Heap.lt_size e
  | frz ob u => obtain ⟨e, _⟩ := x; exact Heap.lt_size e
  | tbl ps => exact Heap.lt_size (show h.get? a = some _ from x)
  | met f y => exact Heap.lt_size (show h.get? a = some _ from x)
  | ext φ => obtain ⟨_, ⟨_, e⟩, _⟩ := x; exact Heap.lt_size e
theorem Paired.mapP {α β : Type} {F G : α → β → Prop} : ∀ {l₁ : List α} {l₂ : List β}, Paired F l₁ l₂ → (∀ a b, F a b → G a b) → Paired G l₁ l₂
  | _, _, .nil, _ => .nil
  | _, _, .cons r t, f => .cons (f _ _ r) (Paired.mapP t f)
/-- what an object's description leans on: its own object, its own dict, the tuples -/
theorem ObjOk.stay (x : ObjOk P w H h a o) (k : ∀ b u, (b = a ∨ H b = some (.own a)) → h.get? b = some u → h'.get? b = some u)
    (ho : ∀ b, H b = some (.own a) → H' b = some (.own a)) (ht : ∀ b xs, H b = some (.tup xs) → H' b = some (.tup xs)) : ObjOk P w H' h' a o := by
  induction o with
  | lst xs => obtain ⟨z, its, n, r, e⟩ := x; exact ⟨z, its, n, r, k _ _ (.inl rfl) e⟩
  | tup xs => obtain ⟨z, its, r, ob, e, c⟩ := x; exact ⟨z, its, r, ob, k _ _ (.inl rfl) e, c⟩
  | dK kvs => obtain ⟨z, y, vs, r, ob, es, ep, e, c⟩ := x; exact ⟨z, y, vs, r, ob, es, ep, k _ _ (.inl rfl) e, c⟩
  | dT kvs =>
    obtain ⟨z, y, xs, r, ob, es, ep, e, c⟩ := x
    exact ⟨z, y, xs, Paired.mapP r fun p q z => ⟨z.1, ht _ _ z.2.1, z.2.2⟩, ob, es, ep, k _ _ (.inl rfl) e, c⟩
  | set S n => obtain ⟨ob, es, ep, t, e, c⟩ := x; exact ⟨ob, es, ep, t, k _ _ (.inl rfl) e, c⟩
  | ins C dx fs =>
    obtain ⟨d, z, ne, e, mA, ⟨od, es, ep, e2, c⟩, r⟩ := x
    exact ⟨ho _ d, z, ne, k _ _ (.inl rfl) e, mA, ⟨od, es, ep, k _ _ (.inr d) e2, c⟩, r⟩
  | own y => obtain ⟨ob, e⟩ := x; exact ⟨ob, k _ _ (.inl rfl) e⟩
  | xd fs => obtain ⟨mA, ⟨od, es, ep, e, c⟩, r⟩ := x; exact ⟨mA, ⟨od, es, ep, k _ _ (.inl rfl) e, c⟩, r⟩
  | rng lo hi => obtain ⟨t, u, v, e⟩ := x; exact ⟨t, u, v, k _ _ (.inl rfl) e⟩
  | frz ob u ih => obtain ⟨e, q⟩ := x; exact ⟨k _ _ (.inl rfl) e, ih q⟩
  | tbl ps =>
    have e : h.get? a = some { cls := .none, data := .fields ps } := x
    show h'.get? a = some { cls := .none, data := .fields ps }
    exact k a _ (.inl rfl) e
  | met f y =>
    have e : h.get? a = some (PySem.W.methodObj (.ref f) (.ref y)) := x
    show h'.get? a = some (PySem.W.methodObj (.ref f) (.ref y))
    exact k a _ (.inl rfl) e
  | ext φ => obtain ⟨p, ⟨o, e⟩, st⟩ := x; exact ⟨st _ _ p fun o q => k _ _ (.inl rfl) q, ⟨o, k _ _ (.inl rfl) e⟩, st⟩
theorem HOk.lt (x : HOk P w H h) (e : H a = some o) : a < h.objs.size := (x a o e).lt
theorem HOk.fresh (x : HOk P w H h) (e : h.objs.size ≤ a) : H a = none := by
  cases q : H a with
  | none => rfl
  | some u => exact absurd (Nat.lt_of_lt_of_le (x.lt q) e) (Nat.lt_irrefl _)
/-- every object of the heap is kept -/
theorem HOk.kept (x : HOk P w H h) (k : ∀ b u, h.get? b = some u → h'.get? b = some u) : HOk P w H h' := fun a o e =>
  (x a o e).stay (fun b u _ q => k b u q) (fun _ q => q) fun _ _ q => q
/-- a new object is laid and tracked -/
theorem HOk.laid (x : HOk P w H h) (k : ∀ b u, h.get? b = some u → h'.get? b = some u) (hp : h.objs.size ≤ a) (new : ObjOk P w (upd H a o) h' a o) : HOk P w (upd H a o) h' := fun b u e => by
  have hn := x.fresh hp
  by_cases hb : b = a
  · subst hb; rw [upd_same] at e; cases e; exact new
  · rw [upd_ne hb] at e
    exact (x b u e).stay (fun c v _ q => k c v q) (fun c q => by rw [upd_ne (ne_of_none q hn)]; exact q) fun c xs q => by rw [upd_ne (ne_of_none q hn)]; exact q
end

/-- what may be read as u: it is u, or a known u -/
def Rd (H : Hp) (a : Addr) (u : HO) : Prop := H a = some u ∨ ∃ o, H a = some (.frz o u)
theorem Rd.ok {P : Program} {w : World} {H : Hp} {h : Heap} {a : Addr} {u : HO} (r : Rd H a u) (x : HOk P w H h) : ObjOk P w H h a u := by
  rcases r with r | ⟨o, r⟩
  · exact x a u r
  · obtain ⟨_, q⟩ := x a _ r
    exact q
/-- what may be written -/
def Mut : Option HO → Prop
  | some (.lst _) => True
  | some (.dK _) => True
  | some (.dT _) => True
  | some (.set _ _) => True
  | some (.ins _ _ _) => True
  | some (.ext _) => True
  | _ => False
section
variable {P : Program} {w : World} {H : Hp} {h h' : Heap} {x e : Addr} {o' : HO}
/-- the object at e is changed: x itself, or the dict of the instance x -/
theorem HOk.write (ok : HOk P w H h) (mu : Mut (H x)) (he : e = x ∨ H e = some (.own x)) (k : ∀ b u, b ≠ e → h.get? b = some u → h'.get? b = some u) (heo : ∃ u, h'.get? e = some u)
    (new : ObjOk P w (upd H x o') h' x o') : HOk P w (upd H x o') h' := fun b u q => by
  have nown : ∀ c y, H c = some (.own y) → c ≠ x := fun c y r z => by subst z; rw [r] at mu; exact mu
  have ntup : ∀ c xs, H c = some (.tup xs) → c ≠ x := fun c xs r z => by subst z; rw [r] at mu; exact mu
  by_cases hb : b = x
  · subst hb; rw [upd_same] at q; cases q; exact new
  · rw [upd_ne hb] at q
    by_cases hbe : b = e
    · have q' : H b = some (.own x) := by
        rcases he with z | z
        · exact absurd (hbe.trans z) hb
        · rw [hbe]; exact z
      rw [q] at q'; cases q'
      obtain ⟨v, hv⟩ := heo
      exact ⟨v, by rw [hbe]; exact hv⟩
    · refine (ok b u q).stay (fun c v hc r => k c v ?_ r) (fun c r => by rw [upd_ne (nown c b r)]; exact r) fun c xs r => by rw [upd_ne (ntup c xs r)]; exact r
      rcases hc with rfl | hc
      · exact hbe
      · rintro rfl
        rcases he with z | z
        · exact nown c b hc z
        · rw [hc] at z; cases z; exact hb rfl
end

/-! ### kept unless tracked; of the frames at fs (the callers') the slots may change (an exception that passes writes there); of the records at ex (iterators) nothing is said -/
structure Un (fs ex : List Addr) (H H' : Hp) (h h' : Heap) : Prop where
  keep : ∀ b o, h.get? b = some o → H b = none → b ∉ fs → b ∉ ex → h'.get? b = some o
  slot : ∀ b o, h.get? b = some o → H b = none → b ∈ fs → b ∉ ex → ∃ sl, h'.get? b = some { o with slots := sl }
  free : ∀ b o, h.get? b = some o → H b = none → b ∉ ex → H' b = none
  there : ∀ b o, h.get? b = some o → b ∉ ex → ∃ o', h'.get? b = some o'
  tups : ∀ b xs, H b = some (.tup xs) → H' b = some (.tup xs)
  frzs : ∀ b o u, H b = some (.frz o u) → H' b = some (.frz o u)
  tbls : ∀ b ps, H b = some (.tbl ps) → ∃ more, H' b = some (.tbl (ps ++ more))
section
variable {fs fs' ex ex' : List Addr} {H H1 H2 : Hp} {h h1 h2 h' : Heap} {a x e : Addr} {o : HO}
theorem Un.any (u : Un fs ex H H1 h h1) {b : Addr} {ob : Obj} (q : h.get? b = some ob) (n : H b = none) (hx : b ∉ ex) : ∃ sl, h1.get? b = some { ob with slots := sl } := by
  by_cases hb : b ∈ fs
  · exact u.slot b ob q n hb hx
  · exact ⟨ob.slots, u.keep b ob q n hb hx⟩
theorem Un.kept (k : ∀ b u, h.get? b = some u → h'.get? b = some u) : Un fs ex H H h h' :=
  ⟨fun b ob q _ _ _ => k b ob q, fun b ob q _ _ _ => ⟨ob.slots, k b ob q⟩, fun _ _ _ n _ => n, fun b ob q _ => ⟨ob, k b ob q⟩, fun _ _ q => q, fun _ _ _ q => q, fun _ ps q => ⟨#[], by rw [q]; simp⟩⟩
theorem Un.refl : Un fs ex H H h h := Un.kept fun _ _ q => q
theorem Un.laid (k : ∀ b u, h.get? b = some u → h'.get? b = some u) (hp : h.objs.size ≤ a) (hn : H a = none) : Un fs ex H (upd H a o) h h' where
  keep := fun b u q _ _ _ => k b u q
  slot := fun b u q _ _ _ => ⟨u.slots, k b u q⟩
  free := fun b u q n _ => by rw [upd_ne (Nat.ne_of_lt (Nat.lt_of_lt_of_le (Heap.lt_size q) hp))]; exact n
  there := fun b u q _ => ⟨u, k b u q⟩
  tups := fun b xs q => by rw [upd_ne (ne_of_none q hn)]; exact q
  frzs := fun b u xs q => by rw [upd_ne (ne_of_none q hn)]; exact q
  tbls := fun b ps q => ⟨#[], by rw [upd_ne (ne_of_none q hn), q]; simp⟩
theorem Un.write (mu : Mut (H x)) (he : e = x ∨ H e = some (.own x)) (k : ∀ b u, b ≠ e → h.get? b = some u → h'.get? b = some u) (heo : ∃ u, h'.get? e = some u) : Un fs ex H (upd H x o) h h' := by
  have hx : ∀ b, H b = none → b ≠ x := fun b n z => by subst z; rw [n] at mu; exact mu
  have hb : ∀ b, H b = none → b ≠ e := fun b n z => by
    subst z
    rcases he with r | r
    · exact hx b n r
    · rw [n] at r; cases r
  have hm : ∀ b u, H b = some u → ¬ Mut (some u) → b ≠ x := fun b u q nm z => by subst z; rw [q] at mu; exact nm mu
  refine ⟨fun b u q n _ _ => k b u (hb b n) q, fun b u q n _ _ => ⟨u.slots, k b u (hb b n) q⟩, fun b u q n _ => by rw [upd_ne (hx b n)]; exact n, fun b u q _ => ?_,
    fun b xs q => by rw [upd_ne (hm b _ q fun z => z)]; exact q, fun b u xs q => by rw [upd_ne (hm b _ q fun z => z)]; exact q, fun b ps q => ⟨#[], by rw [upd_ne (hm b _ q fun z => z), q]; simp⟩⟩
  by_cases hbe : b = e
  · subst hbe; exact heo
  · exact ⟨u, k b u hbe q⟩
end

/-! ### the heap without what is tracked -/
def trk (h : Heap) (H : Hp) : List Addr := (List.range h.objs.size).filter fun a => (H a).isSome
def hidT (h : Heap) (H : Hp) : Heap := PySem.W.hideAll h (trk h H)
theorem hidT_size (h : Heap) (H : Hp) : (hidT h H).objs.size = h.objs.size := PySem.W.hideAll_size _ _
theorem hidT_get {h : Heap} {H : Hp} {b : Addr} {o : Obj} (e : h.get? b = some o) (n : H b = none) : (hidT h H).get? b = some o :=
  PySem.W.hideAll_get _ e fun hm => by
    have q : (H b).isSome = true := (List.mem_filter.mp hm).2
    rw [n] at q; simp at q
theorem of_hidT {h : Heap} {H : Hp} {b : Addr} {o : Obj} (e : (hidT h H).get? b = some o) : h.get? b = some o ∧ H b = none := by
  have e' : h.get? b = some o := PySem.W.of_hideAll (trk h H) e
  refine ⟨e', ?_⟩
  cases q : H b with
  | none => rfl
  | some x =>
    have hm : b ∈ trk h H := List.mem_filter.mpr ⟨List.mem_range.mpr (Heap.lt_size e'), by simp [q]⟩
    have z : (hidT h H).get? b = none := PySem.W.hideAll_none (trk h H) hm
    rw [z] at e; cases e

/-! ### OpenK's ledger, filled with every new object but one -/
end L2

namespace L2
open PySem PySem.Spec PyProof.Rows

/-- the module's facts, over the base: the heap at the law's entry without what is tracked there -/
structure Mod (K : PySem.W.Frag) (mg : Str → Option Value) (base : Heap) : Prop where
  kin : K.In base
  glob : base.Ns mainGlobals mg
  blt : ∃ mb, base.Ns builtinsNs mb ∧ ∀ x : Str, x ≠ "__name__" → mb x = bootBuiltins x
  nolimit : base.NoLimit

/-- the context: a def's body (or a comprehension's block) running. base: fixed through the whole law; s₀, H₀: the entry; outer: the frames whose slots others may change (a def's callers); stack: all frames that run;
   ex: iterators that were made ahead of the entry and are walked here (a comprehension's); fn: the names whose cells were made at the entry (a def: all; a comprehension's block: its own); calm: not within an except suite; pn: pins that every state bears; xe: what is wanted of an exception that leaves the code -/
structure Cx where
  prog : Program
  w : World
  K : PySem.W.Frag
  mg : Str → Option Value
  base : Heap
  A : Around
  N : List Str
  s_0 : Shared
  H_0 : Hp
  env : Env
  outer : List Env
  stack : List Env
  ex : List Addr
  fn : Str → Bool
  calm : Bool
  pn : List (Addr × Obj)
  xe : Value → Shared → Prop
/-- the callers' frames -/
def frs (l : List Env) : List Addr := l.filterMap (·.frame)
abbrev Cx.fs (X : Cx) : List Addr := frs X.outer

def Vis (sc : Scope) (x : Str) : Prop := sc.names.lookup x = some .local ∨ sc.names.lookup x = some .cell ∨ sc.names.lookup x = some .free
def Loc (sc : Scope) (x : Str) : Prop := sc.names.lookup x = some .local ∨ sc.names.lookup x = some .cell
def Look (env : Env) (h : Heap) (m : Str → Option Value) (x : Str) (u : Value) : Prop :=
  (env.kindOf x = some .local ∧ m x = some u) ∨ ((env.kindOf x = some .cell ∨ env.kindOf x = some .free) ∧ ∃ c, env.cells.lookup x = some c ∧ h.IsCell c (some u))

structure Cx.Ok (X : Cx) : Prop where
  mod : Mod X.K X.mg X.base
  kind : X.env.scope.kind = .function
  glob : X.env.globals = mainGlobals
  blt : X.env.builtins = builtinsNs
  above : X.s_0.heap.objs.size ≤ X.env.locals
  inj : ∀ x y c, X.env.cells.lookup x = some c → X.env.cells.lookup y = some c → x = y
  has : ∀ x, (X.env.kindOf x = some .cell ∨ X.env.kindOf x = some .free) → ∃ c, X.env.cells.lookup x = some c
  cab : ∀ x c, X.fn x = true → X.env.cells.lookup x = some c → X.s_0.heap.objs.size ≤ c
  hd : X.calm = true → X.A.handled = none
  frames : X.A.frames = some X.stack
  stk : X.stack = X.outer ∨ (X.stack = X.env :: X.outer ∧ X.env.frame = some X.env.locals)
  exf : ∀ b ∈ X.ex, b ≠ X.env.locals ∧ ∀ x c, X.env.cells.lookup x = some c → c ≠ b
  bs : ∀ b o, X.base.get? b = some o → X.s_0.heap.get? b = some o ∧ X.H_0 b = none
  bsz : X.base.objs.size ≤ X.s_0.heap.objs.size
  noex : ∀ b o, X.base.get? b = some o → b ∉ X.ex
  exfs : ∀ b ∈ X.ex, b ∉ X.fs
  funs : X.s_0.heap.FunFrames X.base X.outer
  frf : ∀ b ∈ X.fs, X.H_0 b = none

structure Inv (X : Cx) (pins : List (Addr × Obj)) (σ : List (Option V)) (H : Hp) (s : Shared) : Prop where
  ok : X.Ok
  os : s.os = X.s_0.os
  bare : AllBare s.gens
  base : Un X.fs X.ex X.H_0 H X.s_0.heap s.heap
  loc : ∃ m, s.heap.Ns X.env.locals m ∧ ∀ (i : Nat) (x : Str) (v : V), X.N[i]? = some x → σ[i]? = some (some v) → Vis X.env.scope x → ∃ u, RelV v u ∧ Look X.env s.heap m x u
  cell : ∀ x c, X.env.cells.lookup x = some c → ∃ v, s.heap.IsCell c v
  free : H X.env.locals = none
  freeC : ∀ x c, X.env.cells.lookup x = some c → H c = none
  pin : ∀ p ∈ X.pn ++ pins, s.heap.get? p.1 = some p.2 ∧ H p.1 = none ∧ p.1 ≠ X.env.locals ∧ p.1 ∉ X.fs ∧ ∀ v, p.2.data ≠ .cell v
  hok : HOk X.prog X.w H s.heap
  len : σ.length = X.N.length

section
variable {X : Cx} {pins : List (Addr × Obj)} {σ : List (Option V)} {H H' : Hp} {s : Shared} {h' : Heap}

theorem Cx.Ok.nofr (ok : X.Ok) {b : Addr} {o : Obj} (e : X.base.get? b = some o) : b ∉ X.fs := fun hb => by
  have := (ok.funs.mem hb).1
  rw [e] at this; cases this
theorem Inv.bs (I : Inv X pins σ H s) : ∀ b o, X.base.get? b = some o → s.heap.get? b = some o ∧ H b = none := fun b o e =>
  ⟨I.base.keep b o (I.ok.bs b o e).1 (I.ok.bs b o e).2 (I.ok.nofr e) (I.ok.noex b o e), I.base.free b o (I.ok.bs b o e).1 (I.ok.bs b o e).2 (I.ok.noex b o e)⟩
theorem Inv.bk (I : Inv X pins σ H s) : ∀ b o, X.base.get? b = some o → s.heap.get? b = some o := fun b o e => (I.bs b o e).1
theorem Inv.mod (I : Inv X pins σ H s) : Mod X.K X.mg X.base := I.ok.mod
theorem Inv.kIn (I : Inv X pins σ H s) : X.K.In s.heap := I.ok.mod.kin.keeps I.bk
/-- the frame over the base: for OpenK's rules (K.In X.base is I.mod.kin) -/
theorem Inv.fr (I : Inv X pins σ H s) : ∃ m, Fr X.base X.env.locals s.heap m :=
  let ⟨m, hn, _⟩ := I.loc
  ⟨m, hn, I.bk, Nat.le_trans I.ok.bsz I.ok.above⟩
theorem Inv.lt (I : Inv X pins σ H s) : X.env.locals < s.heap.objs.size := let ⟨_, hn, _⟩ := I.loc; hn.lt
theorem Inv.sz (I : Inv X pins σ H s) : X.s_0.heap.objs.size ≤ s.heap.objs.size := Nat.le_trans I.ok.above (Nat.le_of_lt I.lt)
theorem Inv.nofs (I : Inv X pins σ H s) {a : Addr} (h : s.heap.objs.size ≤ a) : a ∉ X.fs := fun hb => by
  obtain ⟨_, o, ho, _⟩ := I.ok.funs.mem hb
  exact absurd (Nat.lt_of_lt_of_le (Heap.lt_size ho) (Nat.le_trans I.sz h)) (Nat.lt_irrefl _)
theorem Inv.cne (I : Inv X pins σ H s) : ∀ x c, X.env.cells.lookup x = some c → c ≠ X.env.locals := fun x c e z => by
  obtain ⟨v, o, ho, hd⟩ := I.cell x c e
  obtain ⟨m, ⟨o', es, ep, ho', hd', _⟩, _⟩ := I.loc
  rw [z, ho'] at ho; cases ho; rw [hd'] at hd; cases hd
theorem Inv.funs (I : Inv X pins σ H s) : s.heap.FunFrames X.base X.outer := by
  have all : ∀ (l : List Env), (∀ b ∈ frs l, b ∈ X.fs) → X.s_0.heap.FunFrames X.base l → s.heap.FunFrames X.base l := by
    intro l
    induction l with
    | nil => intro _ _; trivial
    | cons env r ih =>
      intro hs hl
      obtain ⟨hk, ⟨L, o, hf, hn, ho, hd⟩, hr⟩ := hl
      have hL : L ∈ X.fs := hs L (by unfold frs; rw [List.filterMap_cons, hf]; exact List.mem_cons_self)
      obtain ⟨sl, e⟩ := I.base.slot L o ho (I.ok.frf L hL) hL fun z => I.ok.exfs L z hL
      exact ⟨hk, ⟨L, _, hf, hn, e, hd⟩, ih (fun b hb => hs b (by unfold frs; rw [List.filterMap_cons, hf]; exact List.mem_cons_of_mem _ hb)) hr⟩
  exact all X.outer (fun _ hb => hb) I.ok.funs

/-- the frames that run, for a call -/
theorem Inv.stack (I : Inv X pins σ H s) : s.heap.FunFrames X.base X.stack := by
  rcases I.ok.stk with e | ⟨e, hf⟩
  · rw [e]; exact I.funs
  · rw [e]
    obtain ⟨m, hn, _⟩ := I.loc
    refine .cons (by rw [I.ok.kind]; decide) hf hn ?_ I.funs
    exact Heap.get?_none_of_le (Nat.le_trans I.ok.bsz I.ok.above)
theorem Inv.stkSub (I : Inv X pins σ H s) : ∀ b ∈ frs X.stack, b ∈ X.env.locals :: X.fs := fun b hb => by
  rcases I.ok.stk with e | ⟨e, hf⟩
  · rw [e] at hb; exact List.mem_cons_of_mem _ hb
  · rw [e] at hb
    unfold frs at hb
    rw [List.filterMap_cons, hf] at hb
    exact hb
theorem Inv.stkFree (I : Inv X pins σ H s) : ∀ b ∈ frs X.stack, H b = none := fun b hb => by
  rcases List.mem_cons.mp (I.stkSub b hb) with e | hb
  · rw [e]; exact I.free
  · obtain ⟨_, o, ho, _⟩ := I.ok.funs.mem hb
    exact I.base.free b o ho (I.ok.frf b hb) fun z => I.ok.exfs b z hb

/-- THE STEP: the untracked objects but the frame and the records at ch are kept (the callers' frames up to slots), the frame's map is kept, the new abstract heap is held -/
theorem Inv.step {g' : Array GenState} {t' : Nat} {d' : Drawn} {ch : List Addr} (I : Inv X pins σ H s)
    (hch : ∀ b ∈ ch, (b ∈ X.ex ∨ X.s_0.heap.objs.size ≤ b) ∧ b ≠ X.env.locals ∧ (∀ x c, X.env.cells.lookup x = some c → c ≠ b) ∧ ∀ p ∈ X.pn ++ pins, p.1 ≠ b)
    (keep : ∀ b o, b ≠ X.env.locals → b ∉ X.fs → b ∉ ch → s.heap.get? b = some o → H b = none → h'.get? b = some o)
    (slot : ∀ b o, b ≠ X.env.locals → b ∈ X.fs → b ∉ ch → s.heap.get? b = some o → H b = none → ∃ sl, h'.get? b = some { o with slots := sl }) (free : ∀ b o, b ∉ ch → s.heap.get? b = some o → H b = none → H' b = none)
    (there : ∀ b o, b ∉ ch → s.heap.get? b = some o → ∃ o', h'.get? b = some o')
    (tups : ∀ b xs, H b = some (.tup xs) → H' b = some (.tup xs)) (frzs : ∀ b o u, H b = some (.frz o u) → H' b = some (.frz o u)) (tbls : ∀ b ps, H b = some (.tbl ps) → ∃ more, H' b = some (.tbl (ps ++ more)))
    (ns : ∀ m, s.heap.Ns X.env.locals m → h'.Ns X.env.locals m) (hok : HOk X.prog X.w H' h') (hg : AllBare g') :
    Inv X pins σ H' { s with heap := h', gens := g', drawn := d', toks := t' } := by
  have neL : ∀ b o, X.s_0.heap.get? b = some o → b ≠ X.env.locals := fun b o e => Nat.ne_of_lt (Nat.lt_of_lt_of_le (Heap.lt_size e) I.ok.above)
  have neC : ∀ b o, X.s_0.heap.get? b = some o → b ∉ X.ex → b ∉ ch := fun b o e hx hb => by
    rcases (hch b hb).1 with z | z
    · exact hx z
    · exact absurd (Nat.lt_of_lt_of_le (Heap.lt_size e) z) (Nat.lt_irrefl _)
  have cellK : ∀ x c, X.env.cells.lookup x = some c → ∀ v, s.heap.IsCell c v → h'.IsCell c v := fun x c e v ⟨o, ho, hd⟩ => by
    have nch : c ∉ ch := fun z => (hch c z).2.2.1 x c e rfl
    by_cases hc : c ∈ X.fs
    · obtain ⟨sl, q⟩ := slot c o (I.cne x c e) hc nch ho (I.freeC x c e)
      exact ⟨_, q, hd⟩
    · exact ⟨o, keep c o (I.cne x c e) hc nch ho (I.freeC x c e), hd⟩
  refine ⟨I.ok, I.os, hg, ⟨fun b o e n hb hx => ?_, fun b o e n hb hx => ?_, fun b o e n hx => ?_, fun b o e hx => ?_, fun b xs e => tups b xs (I.base.tups b xs e), fun b o xs e => frzs b o xs (I.base.frzs b o xs e), fun b ps e => ?_⟩, ?_, fun x c e => ?_, ?_, fun x c e => ?_, fun p hp => ?_, hok, I.len⟩
  · exact keep b o (neL b o e) hb (neC b o e hx) (I.base.keep b o e n hb hx) (I.base.free b o e n hx)
  · obtain ⟨sl, e1⟩ := I.base.slot b o e n hb hx
    obtain ⟨sl', e2⟩ := slot b _ (neL b o e) hb (neC b o e hx) e1 (I.base.free b o e n hx)
    exact ⟨sl', e2⟩
  · obtain ⟨o', e1⟩ := I.base.there b o e hx
    exact free b o' (neC b o e hx) e1 (I.base.free b o e n hx)
  · obtain ⟨o', e1⟩ := I.base.there b o e hx
    exact there b o' (neC b o e hx) e1
  · obtain ⟨m1, e1⟩ := I.base.tbls b ps e
    obtain ⟨m2, e2⟩ := tbls b _ e1
    exact ⟨m1 ++ m2, by rw [e2, Array.append_assoc]⟩
  · obtain ⟨m, hn, hl⟩ := I.loc
    refine ⟨m, ns m hn, fun i x v e1 e2 e3 => ?_⟩
    obtain ⟨u, r, l⟩ := hl i x v e1 e2 e3
    refine ⟨u, r, ?_⟩
    rcases l with l | ⟨k, c, e, z⟩
    · exact .inl l
    · exact .inr ⟨k, c, e, cellK x c e _ z⟩
  · obtain ⟨v, z⟩ := I.cell x c e
    exact ⟨v, cellK x c e v z⟩
  · obtain ⟨m, ⟨o, _, _, ho, _⟩, _⟩ := I.loc
    exact free _ o (fun z => (hch _ z).2.1 rfl) ho I.free
  · obtain ⟨v, o, ho, hd⟩ := I.cell x c e
    exact free c o (fun z => (hch c z).2.2.1 x c e rfl) ho (I.freeC x c e)
  · obtain ⟨e, n, ne, nf, d⟩ := I.pin p hp
    have nch : p.1 ∉ ch := fun z => (hch p.1 z).2.2.2 p hp rfl
    exact ⟨keep p.1 p.2 ne nf nch e n, free p.1 p.2 nch e n, ne, nf, d⟩
/-- .. where the frame's own object is kept too -/
theorem Inv.un {t' : Nat} (I : Inv X pins σ H s) (u : Un X.fs [] H H' s.heap h') (hok : HOk X.prog X.w H' h') : Inv X pins σ H' { s with heap := h', toks := t' } := by
  obtain ⟨m, ⟨o, es, ep, ho, r⟩, _⟩ := id I.loc
  obtain ⟨sl, hL⟩ := u.any ho I.free (by simp)
  exact I.step (g' := s.gens) (d' := s.drawn) (ch := []) (fun _ z => nomatch z) (fun b o _ hb _ e n => u.keep b o e n hb (by simp)) (fun b o _ hb _ e n => u.slot b o e n hb (by simp)) (fun b o _ e n => u.free b o e n (by simp)) (fun b o _ e => u.there b o e (by simp)) u.tups u.frzs u.tbls (fun m' hm => by
    obtain ⟨o', es', ep', ho', r'⟩ := hm
    rw [ho] at ho'; cases ho'
    exact ⟨_, es', ep', hL, r'⟩) hok I.bare
/-- behind a call (or a comprehension's block): the slots of this frame may have changed too, the records at ch may have turned -/
theorem Inv.call {g' : Array GenState} {t' : Nat} {d' : Drawn} {ch : List Addr} (I : Inv X pins σ H s) (u : Un (frs X.stack) ch H H' s.heap h') (hok : HOk X.prog X.w H' h') (hg : AllBare g')
    (hch : ∀ b ∈ ch, (b ∈ X.ex ∨ X.s_0.heap.objs.size ≤ b) ∧ b ≠ X.env.locals ∧ (∀ x c, X.env.cells.lookup x = some c → c ≠ b) ∧ ∀ p ∈ X.pn ++ pins, p.1 ≠ b) :
    Inv X pins σ H' { s with heap := h', gens := g', drawn := d', toks := t' } := by
  obtain ⟨m, ⟨o, es, ep, ho, r⟩, _⟩ := id I.loc
  obtain ⟨sl, hL⟩ := u.any ho I.free fun z => (hch _ z).2.1 rfl
  exact I.step (ch := ch) hch (fun b o hL hb hc e n => u.keep b o e n (fun z => (List.mem_cons.mp (I.stkSub b z)).elim hL hb) hc) (fun b o _ _ hc e n => u.any e n hc) (fun b o hc e n => u.free b o e n hc) (fun b o hc e => u.there b o e hc) u.tups u.frzs u.tbls (fun m' hm => by
    obtain ⟨o', es', ep', ho', r'⟩ := hm
    rw [ho] at ho'; cases ho'
    exact ⟨_, es', ep', hL, r'⟩) hok hg
/-- an untracked record of ours (an iterator) has turned -/
theorem Inv.turned {t' : Nat} {it : Addr} (I : Inv X pins σ H s) (k : ∀ b o, b ≠ it → s.heap.get? b = some o → h'.get? b = some o) (hn : H it = none) (hL : it ≠ X.env.locals)
    (h1 : it ∈ X.ex ∨ X.s_0.heap.objs.size ≤ it) (h2 : ∀ x c, X.env.cells.lookup x = some c → c ≠ it) (h3 : ∀ p ∈ X.pn ++ pins, p.1 ≠ it) : Inv X pins σ H { s with heap := h', toks := t' } := by
  have nit : ∀ b u, H b = some u → b ≠ it := fun b u e z => by rw [z, hn] at e; cases e
  refine I.step (g' := s.gens) (d' := s.drawn) (ch := [it]) (fun b hb => ?_) (fun b o _ _ hc e _ => k b o (fun z => hc (by simp [z])) e) (fun b o _ _ hc e _ => ⟨o.slots, k b o (fun z => hc (by simp [z])) e⟩) (fun _ _ _ _ n => n)
    (fun b o hc e => ⟨o, k b o (fun z => hc (by simp [z])) e⟩) (fun _ _ e => e) (fun _ _ _ e => e) (fun b ps e => ⟨#[], by rw [e]; simp⟩) (fun m hm => ?_) (fun b u e => ?_) I.bare
  · have e : b = it := by simpa using hb
    subst e
    exact ⟨h1, hL, h2, h3⟩
  · obtain ⟨o, es, ep, ho, r⟩ := hm
    exact ⟨o, es, ep, k _ o (Ne.symm hL) ho, r⟩
  · refine (I.hok b u e).stay (fun c v hc q => k c v ?_ q) (fun _ q => q) fun _ _ q => q
    rcases hc with z | z
    · rw [z]; exact nit b u e
    · exact nit c _ z
theorem Inv.tok (I : Inv X pins σ H s) (t : Nat) : Inv X pins σ H { s with toks := t } := I.un (h' := s.heap) (t' := t) Un.refl I.hok
/-- all objects kept -/
theorem Inv.kept {t' : Nat} (I : Inv X pins σ H s) (k : ∀ b u, s.heap.get? b = some u → h'.get? b = some u) : Inv X pins σ H { s with heap := h', toks := t' } := I.un (Un.kept k) (I.hok.kept k)
/-- a new object laid and tracked -/
theorem Inv.laid {a : Addr} {o : HO} {t' : Nat} (I : Inv X pins σ H s) (k : ∀ b u, s.heap.get? b = some u → h'.get? b = some u) (hp : s.heap.objs.size ≤ a) (new : ObjOk X.prog X.w (upd H a o) h' a o) :
    Inv X pins σ (upd H a o) { s with heap := h', toks := t' } := I.un (Un.laid k hp (I.hok.fresh hp)) (I.hok.laid k hp new)
/-- an object written -/
theorem Inv.write {x e : Addr} {o : HO} {t' : Nat} (I : Inv X pins σ H s) (mu : Mut (H x)) (he : e = x ∨ H e = some (.own x)) (k : ∀ b u, b ≠ e → s.heap.get? b = some u → h'.get? b = some u) (heo : ∃ u, h'.get? e = some u)
    (new : ObjOk X.prog X.w (upd H x o) h' x o) : Inv X pins σ (upd H x o) { s with heap := h', toks := t' } := I.un (Un.write mu he k heo) (I.hok.write mu he k heo new)
/-- forgetting slots, pins -/
theorem Inv.weak {σ' : List (Option V)} (I : Inv X pins σ H s) (hl : σ'.length = σ.length) (w : ∀ (i : Nat) v, σ'[i]? = some (some v) → σ[i]? = some (some v)) : Inv X pins σ' H s :=
  ⟨I.ok, I.os, I.bare, I.base, let ⟨m, hn, hl'⟩ := I.loc; ⟨m, hn, fun i x v e1 e2 e3 => hl' i x v e1 (w i v e2) e3⟩, I.cell, I.free, I.freeC, I.pin, I.hok, hl.trans I.len⟩
theorem Inv.pins_of {pins' : List (Addr × Obj)} (I : Inv X pins σ H s) (h : ∀ p ∈ pins', s.heap.get? p.1 = some p.2 ∧ H p.1 = none ∧ p.1 ≠ X.env.locals ∧ p.1 ∉ X.fs ∧ ∀ v, p.2.data ≠ .cell v) : Inv X pins' σ H s :=
  ⟨I.ok, I.os, I.bare, I.base, I.loc, I.cell, I.free, I.freeC, fun p hp => (List.mem_append.mp hp).elim (fun z => I.pin p (List.mem_append_left _ z)) (h p), I.hok, I.len⟩

theorem nodup_ix {N : List Str} (hN : N.Nodup) {i j : Nat} {x : Str} (a : N[i]? = some x) (b : N[j]? = some x) : i = j := by
  obtain ⟨h1, e1⟩ := List.getElem?_eq_some_iff.mp a
  obtain ⟨h2, e2⟩ := List.getElem?_eq_some_iff.mp b
  exact (List.getElem_inj hN).mp (e1.trans e2.symm)

/-- a name is stored; what changed -/
theorem store_ok2 {M : Model} {A : Around} {E : Value → Shared → Prop} {i : Nat} {x : Str} {v : V} {u : Value} {Q : Unit → Shared → Prop} (I : Inv X pins σ H s) (hN : X.N.Nodup) (hi : X.N[i]? = some x) (hx : Loc X.env.scope x) (r : RelV v u)
    (h : ∀ s', Inv X pins (σ.set i (some v)) H s' → (∃ a, Heap.SameBut a s.heap s'.heap ∧ (a = X.env.locals ∨ X.env.cells.lookup x = some a)) → Q () s') (hf : X.fn x = true ∨ X.env.scope.names.lookup x = some .local := by first | exact .inl rfl | exact .inr rfl | assumption) : wpAny M A (storeName X.env x u) Q E s := by
  obtain ⟨m, hn, hl⟩ := id I.loc
  have hcls : (X.env.scope.kind == .class || (X.env.scope.kind == .module && X.env.locals != X.env.globals)) = false := by rw [I.ok.kind]; rfl
  have hiσ : i < σ.length := by rw [I.len]; exact (List.getElem?_eq_some_iff.mp hi).1
  have cne := I.cne
  have tracked : ∀ {a : Addr} {h' : Heap}, (∃ o, s.heap.get? a = some o ∧ H a = none) → Heap.SameBut a s.heap h' → HOk X.prog X.w H h' := fun {a h'} ha hs b ob e => by
    obtain ⟨_, _, hfree⟩ := ha
    refine (I.hok b ob e).stay (fun c w' hc q => (hs.2 c ?_).trans q) (fun _ q => q) fun _ _ q => q
    rintro rfl
    rcases hc with rfl | hc
    · rw [hfree] at e; cases e
    · rw [hfree] at hc; cases hc
  rcases hx with hk | hk
  · refine wpAny_storeName_local hk hn (fun h' hn' hs => ?_) hcls
    obtain ⟨oL, _, _, hoL, _⟩ := id hn
    refine h _ ⟨I.ok, I.os, I.bare, ⟨fun b o e n hb hx => ?_, fun b o e n hb hx => ?_, I.base.free, fun b o e hx => ?_, I.base.tups, I.base.frzs, I.base.tbls⟩, ⟨_, hn', fun j y v' e1 e2 e3 => ?_⟩, fun y c e => ?_, I.free, I.freeC, fun p hp => ?_, tracked ⟨oL, hoL, I.free⟩ hs, by simpa using I.len⟩ ⟨_, hs, .inl rfl⟩
    · exact (hs.2 b (Nat.ne_of_lt (Nat.lt_of_lt_of_le (Heap.lt_size e) I.ok.above))).trans (I.base.keep b o e n hb hx)
    · obtain ⟨sl, e1⟩ := I.base.slot b o e n hb hx
      exact ⟨sl, (hs.2 b (Nat.ne_of_lt (Nat.lt_of_lt_of_le (Heap.lt_size e) I.ok.above))).trans e1⟩
    · obtain ⟨o', e1⟩ := I.base.there b o e hx
      exact ⟨o', (hs.2 b (Nat.ne_of_lt (Nat.lt_of_lt_of_le (Heap.lt_size e) I.ok.above))).trans e1⟩
    · by_cases hj : j = i
      · subst hj
        rw [hi] at e1; cases e1
        rw [List.getElem?_set_self hiσ] at e2
        cases e2
        exact ⟨u, r, .inl ⟨hk, by simp⟩⟩
      · rw [List.getElem?_set_ne (Ne.symm hj)] at e2
        obtain ⟨u', r', q⟩ := hl j y v' e1 e2 e3
        refine ⟨u', r', ?_⟩
        rcases q with ⟨k, e⟩ | ⟨k, c, e, z⟩
        · refine .inl ⟨k, ?_⟩
          have : y ≠ x := fun e => hj (nodup_ix hN e1 (e ▸ hi))
          simp [this, e]
        · exact .inr ⟨k, c, e, z.sameBut hs (cne y c e)⟩
    · obtain ⟨w', z⟩ := I.cell y c e
      exact ⟨w', z.sameBut hs (cne y c e)⟩
    · obtain ⟨e, n, ne, nf, d⟩ := I.pin p hp
      exact ⟨(hs.2 p.1 ne).trans e, n, ne, nf, d⟩
  · have hfn : X.fn x = true := by
      rcases hf with z | z
      · exact z
      · rw [z] at hk; cases hk
    obtain ⟨c, hc⟩ := I.ok.has x (.inl hk)
    obtain ⟨w', z⟩ := I.cell x c hc
    refine wpAny_storeName_cell I.ok.kind hk hc z (fun h' hc' hs => ?_)
    obtain ⟨oc, hoc, hocd⟩ := id z
    refine h { s with heap := h' } ⟨I.ok, I.os, I.bare, ⟨fun b o e n hb hx => ?_, fun b o e n hb hx => ?_, I.base.free, fun b o e hx => ?_, I.base.tups, I.base.frzs, I.base.tbls⟩, ⟨m, hn.sameBut hs (Ne.symm (cne x c hc)), fun j y v' e1 e2 e3 => ?_⟩, fun y c' e => ?_, I.free, I.freeC, fun p hp => ?_, tracked ⟨oc, hoc, I.freeC x c hc⟩ hs, by simpa using I.len⟩ ⟨c, hs, .inr hc⟩
    · exact (hs.2 b (Nat.ne_of_lt (Nat.lt_of_lt_of_le (Heap.lt_size e) (I.ok.cab x c hfn hc)))).trans (I.base.keep b o e n hb hx)
    · obtain ⟨sl, e1⟩ := I.base.slot b o e n hb hx
      exact ⟨sl, (hs.2 b (Nat.ne_of_lt (Nat.lt_of_lt_of_le (Heap.lt_size e) (I.ok.cab x c hfn hc)))).trans e1⟩
    · obtain ⟨o', e1⟩ := I.base.there b o e hx
      exact ⟨o', (hs.2 b (Nat.ne_of_lt (Nat.lt_of_lt_of_le (Heap.lt_size e) (I.ok.cab x c hfn hc)))).trans e1⟩
    · by_cases hj : j = i
      · subst hj
        rw [hi] at e1; cases e1
        rw [List.getElem?_set_self hiσ] at e2
        cases e2
        exact ⟨u, r, .inr ⟨.inl hk, c, hc, hc'⟩⟩
      · rw [List.getElem?_set_ne (Ne.symm hj)] at e2
        obtain ⟨u', r', q⟩ := hl j y v' e1 e2 e3
        refine ⟨u', r', ?_⟩
        rcases q with q | ⟨k, c', e, z'⟩
        · exact .inl q
        · refine .inr ⟨k, c', e, z'.sameBut hs ?_⟩
          rintro rfl
          exact hj (nodup_ix hN e1 (I.ok.inj _ _ _ e hc ▸ hi))
    · by_cases hcc : c' = c
      · subst hcc; exact ⟨_, hc'⟩
      · obtain ⟨w2, z2⟩ := I.cell y c' e
        exact ⟨w2, z2.sameBut hs hcc⟩
    · obtain ⟨e, n, ne, nf, d⟩ := I.pin p hp
      refine ⟨(hs.2 p.1 ?_).trans e, n, ne, nf, d⟩
      intro q
      rw [q, hoc] at e
      have q' : oc = p.2 := Option.some.inj e
      exact d w' (by rw [← q']; exact hocd)
theorem store_ok {M : Model} {A : Around} {E : Value → Shared → Prop} {i : Nat} {x : Str} {v : V} {u : Value} {Q : Unit → Shared → Prop} (I : Inv X pins σ H s) (hN : X.N.Nodup) (hi : X.N[i]? = some x) (hx : Loc X.env.scope x) (r : RelV v u)
    (h : ∀ s', Inv X pins (σ.set i (some v)) H s' → Q () s') (hf : X.fn x = true ∨ X.env.scope.names.lookup x = some .local := by first | exact .inl rfl | exact .inr rfl | assumption) : wpAny M A (storeName X.env x u) Q E s :=
  store_ok2 I hN hi hx r (fun s' I' _ => h s' I') hf
/-- behind a call or a block, the state as it is -/
theorem Inv.call' {s' : Shared} {ch : List Addr} (I : Inv X pins σ H s) (ho : s'.os = s.os) (u : Un (frs X.stack) ch H H' s.heap s'.heap) (hok : HOk X.prog X.w H' s'.heap) (hg : AllBare s'.gens)
    (hch : ∀ b ∈ ch, (b ∈ X.ex ∨ X.s_0.heap.objs.size ≤ b) ∧ b ≠ X.env.locals ∧ (∀ x c, X.env.cells.lookup x = some c → c ≠ b) ∧ ∀ p ∈ X.pn ++ pins, p.1 ≠ b) : Inv X pins σ H' s' := by
  obtain ⟨h', g', d', t', o'⟩ := s'
  have e : o' = s.os := ho
  subst e
  exact I.call (g' := g') (t' := t') (d' := d') u hok hg hch
end

/-! ### the judgements -/
/-- an exception: its class, its own dict's address (where it has one), the abstract heap behind it -/
abbrev XK := Value → Option Addr → Hp → Prop
abbrev St := List (Option V)
abbrev VK := V → Hp → Prop
/-- an expression's reading; a test's; an argument list's -/
abbrev TE := St → Hp → VK → Prop
abbrev TT := St → Hp → (Bool → Hp → Prop) → Prop
abbrev TA := St → Hp → (List V → Hp → Prop) → Prop
/-- what is wanted behind a statement -/
structure Ends where
  nx : St → Hp → Prop
  rt : VK
  bk : St → Hp → Prop := fun _ _ => False
  ct : St → Hp → Prop := fun _ _ => False
abbrev TS := Ends → St → Hp → Prop

def EP (X : Cx) (pins : List (Addr × Obj)) (σ : St) (Q : VK) (u : Value) (s' : Shared) : Prop := ∃ v H', Inv X pins σ H' s' ∧ RelV v u ∧ Q v H'
def TP (X : Cx) (pins : List (Addr × Obj)) (σ : St) (Q : Bool → Hp → Prop) (b : Bool) (s' : Shared) : Prop := ∃ H', Inv X pins σ H' s' ∧ Q b H'
def AP (X : Cx) (pins : List (Addr × Obj)) (σ : St) (Q : List V → Hp → Prop) (us : List Value) (s' : Shared) : Prop := ∃ vs H', Inv X pins σ H' s' ∧ Vals vs us ∧ Q vs H'
def SP (X : Cx) (pins : List (Addr × Obj)) (D : Ends) (f : Flow) (s' : Shared) : Prop :=
  match f with
  | .next => ∃ σ' H', Inv X pins σ' H' s' ∧ D.nx σ' H'
  | .brk => ∃ σ' H', Inv X pins σ' H' s' ∧ D.bk σ' H'
  | .cont => ∃ σ' H', Inv X pins σ' H' s' ∧ D.ct σ' H'
  | .ret u => ∃ v σ' H', Inv X pins σ' H' s' ∧ RelV v u ∧ D.rt v H'

def PE (X : Cx) (e : Expr) (t : TE) : Prop :=
  ∀ (pins : List (Addr × Obj)) (s : Shared) (σ : St) (H : Hp) (Q : VK), Inv X pins σ H s → t σ H Q → wpAny (model X.prog X.w) X.A (eval e X.env) (EP X pins σ Q) X.xe s
def PT (X : Cx) (e : Expr) (t : TT) : Prop :=
  ∀ (pins : List (Addr × Obj)) (s : Shared) (σ : St) (H : Hp) (Q : Bool → Hp → Prop), Inv X pins σ H s → t σ H Q → wpAny (model X.prog X.w) X.A (isTrue e X.env (eval e X.env)) (TP X pins σ Q) X.xe s
/-- a test whatever its 'whole' is (and, or) -/
def PW (X : Cx) (e : Expr) (t : TT) : Prop :=
  ∀ (whole : Sem Value) (pins : List (Addr × Obj)) (s : Shared) (σ : St) (H : Hp) (Q : Bool → Hp → Prop), Inv X pins σ H s → t σ H Q → wpAny (model X.prog X.w) X.A (isTrue e X.env whole) (TP X pins σ Q) X.xe s
theorem PW.pt {X : Cx} {e : Expr} {t : TT} (h : PW X e t) : PT X e t := h _
/-- an argument list (no star), from the left -/
def PA (X : Cx) (es : List Expr) (t : TA) : Prop :=
  ∀ (pos : Pos) (pins : List (Addr × Obj)) (s : Shared) (σ : St) (H : Hp) (Q : List V → Hp → Prop), Inv X pins σ H s → t σ H Q → wpAny (model X.prog X.w) X.A (spliced (backTo pos (starEach es X.env))) (AP X pins σ Q) X.xe s
def PS (X : Cx) (st : Stmt) (t : TS) : Prop :=
  ∀ (pins : List (Addr × Obj)) (s : Shared) (σ : St) (H : Hp) (D : Ends), Inv X pins σ H s → t D σ H → wpAny (model X.prog X.w) X.A (exec st X.env) (SP X pins D) X.xe s
def PSs (X : Cx) (st : List Stmt) (t : TS) : Prop :=
  ∀ (pins : List (Addr × Obj)) (s : Shared) (σ : St) (H : Hp) (D : Ends), Inv X pins σ H s → t D σ H → wpAny (model X.prog X.w) X.A (execs st X.env) (SP X pins D) X.xe s
/-- weaken the end -/
theorem thn {α : Type} {t : Sem α} {Q Q' : α → Shared → Prop} {M : Model} {A : Around} {E : Value → Shared → Prop} {s : Shared} (h : wpAny M A t Q E s) (hQ : ∀ a s, Q a s → Q' a s) : wpAny M A t Q' E s := wpAny_mono h hQ fun _ _ x => x
end L2

namespace L2
open PySem PySem.Spec PyProof.Rows
section
variable {X : Cx}

/-- two expressions in a row -/
theorem bin {a b : Expr} {ta tb : TE} (ha : PE X a ta) (hb : PE X b tb) {pins : List (Addr × Obj)} {s : Shared} {σ : St} {H : Hp} {R : V → V → Hp → Prop} (I : Inv X pins σ H s) (h : ta σ H fun x H1 => tb σ H1 fun y H2 => R x y H2)
    {α : Type} {Q : α → Shared → Prop} {f : Value → Value → Sem α}
    (hf : ∀ v u s2 x y H2, Inv X pins σ H2 s2 → RelV x v → RelV y u → R x y H2 → wpAny (model X.prog X.w) X.A (f v u) Q X.xe s2) :
    wpAny (model X.prog X.w) X.A (eval a X.env) (fun v s₁ => wpAny (model X.prog X.w) X.A (eval b X.env) (fun u s₂ => wpAny (model X.prog X.w) X.A (f v u) Q X.xe s₂) X.xe s₁) X.xe s := by
  refine thn (ha pins s σ H _ I h) fun v s1 hq9 => ?_
  obtain ⟨x, H1, I1, r1, q1⟩ := hq9
  refine thn (hb pins s1 σ H1 _ I1 q1) fun u s2 hq9 => ?_
  obtain ⟨y, H2, I2, r2, q2⟩ := hq9
  exact hf v u s2 x y H2 I2 r1 r2 q2

/-! ### names and constants -/
def tVar (i : Nat) : TE := fun σ H Q => ∃ v, σ[i]? = some (some v) ∧ Q v H
def tC (v : V) : TE := fun _ H Q => Q v H
theorem pe_var {i : Nat} {x : Str} {pos : Pos} (hN : X.N[i]? = some x) (hv : Vis X.env.scope x) (hd : (x == ("__debug__" : Str)) = false := by decide) (hcd : (x == ("__classdict__" : Str)) = false := by decide) : PE X (.Name x pos) (tVar i) := by
  intro pins s σ H Q I h
  obtain ⟨v, e, h⟩ := h
  obtain ⟨m, hn, hl⟩ := I.loc
  obtain ⟨u, r, l⟩ := hl i x v hN e hv
  have fin : EP X pins σ Q u s := ⟨v, H, I, r, h⟩
  rcases l with ⟨hk, hm⟩ | ⟨hk, c, hc, hcell⟩
  · exact wpAny_Name (wpAny_loadName_local I.ok.kind hk hn hm fin) hd
  · rcases hk with hk | hk
    · exact wpAny_Name (wpAny_loadName_cell I.ok.kind hk hc hcell fin) hd
    · exact wpAny_Name (wpAny_loadName_free I.ok.kind hk hc hcell fin hcd) hd
theorem pe_int {i j pos} : PE X (.Constant (.int i) j pos) (tC (.int i)) := fun _ _ _ H _ I h => wpAny_Constant_int ⟨.int i, H, I.tok _, ⟨_, rfl⟩, h⟩
theorem pe_bl {b j pos} : PE X (.Constant (.bool b) j pos) (tC (.bl b)) := fun _ _ _ H _ I h => Constant_bool ⟨.bl b, H, I, rfl, h⟩
theorem pe_non {j pos} : PE X (.Constant .none j pos) (tC .non) := fun _ _ _ H _ I h => Constant_none ⟨.non, H, I, rfl, h⟩
/-- a global name of the def -/
def Gl (X : Cx) (x : Str) : Prop := X.env.kindOf x = some .globalImplicit
theorem ld_glob {E : Value → Shared → Prop} {pins : List (Addr × Obj)} {s : Shared} {σ : St} {H : Hp} {x : Str} {u : Value} {pos : Pos} {Q : Value → Shared → Prop} (I : Inv X pins σ H s) (hg : Gl X x) (hm : X.mg x = some u) (h : Q u s)
    (hd : (x == ("__debug__" : Str)) = false := by decide) : wpAny (model X.prog X.w) X.A (eval (.Name x pos) X.env) Q E s :=
  Calls.Name_function_global I.ok.kind hg (Calls.loadGlobal_global (by rw [I.ok.glob]; exact I.mod.glob.keeps I.bk) hm h) hd
theorem ld_blt {E : Value → Shared → Prop} {pins : List (Addr × Obj)} {s : Shared} {σ : St} {H : Hp} {x : Str} {u : Value} {pos : Pos} {Q : Value → Shared → Prop} (I : Inv X pins σ H s) (hg : Gl X x) (hm : X.mg x = none) (hv : bootBuiltins x = some u) (h : Q u s)
    (hn : x ≠ "__name__" := by decide) (hd : (x == ("__debug__" : Str)) = false := by decide) : wpAny (model X.prog X.w) X.A (eval (.Name x pos) X.env) Q E s := by
  obtain ⟨mb, h1, h2⟩ := I.mod.blt
  exact Calls.Name_function_global I.ok.kind hg (Calls.loadGlobal_builtin (by rw [I.ok.glob]; exact I.mod.glob.keeps I.bk) hm (by rw [I.ok.blt]; exact h1.keeps I.bk) ((h2 x hn).trans hv) h) hd
/-- a module's constant, a class, a function, as a value -/
theorem pe_glob {x : Str} {v : V} {u : Value} {pos : Pos} (hg : Gl X x) (hm : X.mg x = some u) (r : RelV v u) (hd : (x == ("__debug__" : Str)) = false := by decide) : PE X (.Name x pos) (tC v) :=
  fun _ _ _ H _ I h => ld_glob I hg hm ⟨v, H, I, r, h⟩ hd
/-! ### arithmetic -/
/-- two ints -/
def t2I (ta tb : TE) (k : Int → Int → Hp → Prop) : St → Hp → Prop := fun σ H => ta σ H fun x H1 => tb σ H1 fun y H2 => ∃ i j, x = .int i ∧ y = .int j ∧ k i j H2
variable {a b : Expr} {ta tb : TE} {pos : Pos}
/-! ### comparisons -/
def PC (X : Cx) (op : CmpOp) (a b : Expr) (t : TE) : Prop :=
  ∀ (pins : List (Addr × Obj)) (s : Shared) (σ : St) (H : Hp) (Q : VK), Inv X pins σ H s → t σ H Q →
    wpAny (model X.prog X.w) X.A (eval a X.env) (fun v s₁ => wpAny (model X.prog X.w) X.A (eval b X.env) (fun u s₂ => wpAny (model X.prog X.w) X.A (compareOp op v u) (EP X pins σ Q) X.xe s₂) X.xe s₁) X.xe s
theorem nobehind (b : Expr) {op : CmpOp} (h : op ≠ .In) (h2 : op ≠ .NotIn) : behindInMarks op b = false := by
  have e1 : (op == CmpOp.In) = false := by cases op <;> first | rfl | exact absurd rfl h
  have e2 : (op == CmpOp.NotIn) = false := by cases op <;> first | rfl | exact absurd rfl h2
  cases b <;> simp [behindInMarks, e1, e2]
def tCmp (p : Int → Int → Bool) (ta tb : TE) : TE := fun σ H Q => t2I ta tb (fun i j H2 => Q (.bl (p i j)) H2) σ H
abbrev tEqI : TE → TE → TE := tCmp fun i j => decide (i = j)
abbrev tNeI : TE → TE → TE := tCmp fun i j => !decide (i = j)
/-- a comparison of two ints, by its rule -/
theorem pc_int {op : CmpOp} {p : Int → Int → Bool} (ha : PE X a ta) (hb : PE X b tb)
    (rule : ∀ (i j : Int) (t u : Tok) (Q : Value → Shared → Prop) (s : Shared), Q (.bool (p i j)) s → wpAny (model X.prog X.w) X.A (compareOp op (.int i t) (.int j u)) Q X.xe s) : PC X op a b (tCmp p ta tb) := by
  intro pins s σ H Q I h
  refine bin ha hb I h fun v u s2 x y H2 I2 rx ry q => ?_
  obtain ⟨i, j, rfl, rfl, q⟩ := q
  obtain ⟨t, rfl⟩ := rx
  obtain ⟨t', rfl⟩ := ry
  exact rule i j t t' _ s2 ⟨.bl _, H2, I2, rfl, q⟩
theorem pc_eqI (ha : PE X a ta) (hb : PE X b tb) : PC X .Eq a b (tEqI ta tb) := pc_int ha hb fun _ _ _ _ _ _ h => eq_int (by rw [Bool.beq_eq_decide_eq]; exact h)
theorem pc_neI (ha : PE X a ta) (hb : PE X b tb) : PC X .NotEq a b (tNeI ta tb) := pc_int ha hb fun _ _ _ _ _ _ h => ne_int (by rw [bne, Bool.beq_eq_decide_eq]; exact h)
/-- is None -/
def tIsN (ta : TE) : TE := fun σ H Q => ta σ H fun x H1 => Q (.bl (decide (x = .non))) H1
def tNotN (ta : TE) : TE := fun σ H Q => ta σ H fun x H1 => Q (.bl (!decide (x = .non))) H1
theorem RelV.none_iff {x : V} {v : Value} (r : RelV x v) : (v == Value.none) = decide (x = .non) := by
  cases x with
  | non => cases r; rfl
  | bl _ => cases r; rfl
  | int _ => obtain ⟨t, rfl⟩ := r; rfl
  | str _ => obtain ⟨t, rfl⟩ := r; rfl
  | byt _ => obtain ⟨t, rfl⟩ := r; rfl
  | flt _ => obtain ⟨t, rfl⟩ := r; rfl
  | ref _ => cases r; rfl
  | ty _ => cases r; rfl
theorem pc_isN {j pos'} (ha : PE X a ta) : PC X .Is a (.Constant .none j pos') (tIsN ta) := by
  intro pins s σ H Q I h
  refine thn (ha pins s σ H _ I h) fun v s1 hq9 => ?_
  obtain ⟨x, H1, I1, r1, q1⟩ := hq9
  exact Constant_none (is_none_gen ⟨.bl _, H1, I1, by rw [r1.none_iff]; rfl, q1⟩)
theorem pc_notN {j pos'} (ha : PE X a ta) : PC X .IsNot a (.Constant .none j pos') (tNotN ta) := by
  intro pins s σ H Q I h
  refine thn (ha pins s σ H _ I h) fun v s1 hq9 => ?_
  obtain ⟨x, H1, I1, r1, q1⟩ := hq9
  exact Constant_none (isnot_none_gen ⟨.bl _, H1, I1, by rw [r1.none_iff]; rfl, q1⟩)
/-- a comparison as a value, as a test -/
def tB (t : TE) : TT := fun σ H Q => t σ H fun x H1 => ∃ c, x = .bl c ∧ Q c H1
theorem pt_cmp {op : CmpOp} {t : TE} (h : PC X op a b t) (h1 : behindInMarks op b = false := by first | exact nobehind _ (by decide) (by decide) | rfl) : PT X (.Compare a [op] [b] pos) (tB t) := by
  intro pins s σ H Q I hw
  refine wpAny_isTrue_Compare1 (thn (h pins s σ H _ I hw) fun v s1 h1 => thn h1 fun u s2 h2 => thn h2 fun c s3 ⟨x, H1, I1, r1, q1⟩ => ?_) h1
  obtain ⟨d, rfl, q⟩ := q1
  cases r1
  exact wpAny_truthy_bool ⟨H1, I1, q⟩
/-- an expression whose value is a bool, as a test -/
theorem pt_val {e : Expr} {t : TE} (h : PE X e t) (he : ∀ whole, isTrue e X.env whole = (do let v ← whole; standAt e.pos; holding [v] (truthy v)) := by intro _; rfl) : PT X e (tB t) := by
  intro pins s σ H Q I hw
  refine isTrue_plain (thn (h pins s σ H _ I hw) fun v s1 ⟨x, H1, I1, r1, q1⟩ => ?_) (he _)
  obtain ⟨d, rfl, q⟩ := q1
  cases r1
  exact wpAny_truthy_bool ⟨H1, I1, q⟩

/-! ### and, or, not -/
variable {tA tB' : TT} {rest : List Expr}
def tAnd (t u : TT) : TT := fun σ H Q => t σ H fun c H1 => if c = true then u σ H1 Q else Q false H1
def tOr (t u : TT) : TT := fun σ H Q => t σ H fun c H1 => if c = true then Q true H1 else u σ H1 Q
def tNot (t : TT) : TT := fun σ H Q => t σ H fun c H1 => Q (!c) H1
theorem pw_and1 (ha : PT X a tA) : PW X (.BoolOp .And [a] pos) tA := by
  intro wh pins s σ H Q I h
  refine isTrue_and (thn (ha pins s σ H Q I h) fun c s1 e => ?_)
  cases c with
  | true => exact isTrue_and_nil e
  | false => exact e
theorem pw_or1 (ha : PT X a tA) : PW X (.BoolOp .Or [a] pos) tA := by
  intro wh pins s σ H Q I h
  refine isTrue_or (thn (ha pins s σ H Q I h) fun c s1 e => ?_)
  cases c with
  | false => exact isTrue_or_nil e
  | true => exact e
theorem pw_and (ha : PT X a tA) (hb : PW X (.BoolOp .And (b :: rest) pos) tB') : PW X (.BoolOp .And (a :: b :: rest) pos) (tAnd tA tB') := by
  intro wh pins s σ H Q I h
  refine isTrue_and (thn (ha pins s σ H _ I h) fun c s1 hq9 => ?_)
  obtain ⟨H1, I1, q1⟩ := hq9
  cases c with
  | true => exact hb wh pins s1 σ H1 Q I1 q1
  | false => exact ⟨H1, I1, q1⟩
theorem pw_or (ha : PT X a tA) (hb : PW X (.BoolOp .Or (b :: rest) pos) tB') : PW X (.BoolOp .Or (a :: b :: rest) pos) (tOr tA tB') := by
  intro wh pins s σ H Q I h
  refine isTrue_or (thn (ha pins s σ H _ I h) fun c s1 hq9 => ?_)
  obtain ⟨H1, I1, q1⟩ := hq9
  cases c with
  | true => exact ⟨H1, I1, q1⟩
  | false => exact hb wh pins s1 σ H1 Q I1 q1
theorem pt_not (ha : PT X a tA) : PT X (.UnaryOp .Not a pos) (tNot tA) := by
  intro pins s σ H Q I h
  exact isTrue_not (ha pins s σ H (fun c H1 => Q (!c) H1) I h)
/-- .. as values (bools) -/
def tAndV (ta tb : TE) : TE := fun σ H Q => ta σ H fun x H1 => ∃ c, x = .bl c ∧ if c = true then tb σ H1 Q else Q (.bl false) H1
theorem pe_one {op} {t : TE} (h : PE X a t) : PE X (.BoolOp op [a] pos) t := fun pins s σ H Q I hw => BoolOp_one (h pins s σ H Q I hw)
theorem pe_and (ha : PE X a ta) (hb : PE X (.BoolOp .And (b :: rest) pos) tb) : PE X (.BoolOp .And (a :: b :: rest) pos) (tAndV ta tb) := by
  intro pins s σ H Q I h
  refine BoolOp_and (thn (ha pins s σ H _ I h) fun v s1 hq9 => ?_)
  obtain ⟨x, H1, I1, r1, q1⟩ := hq9
  obtain ⟨c, rfl, q1⟩ := q1
  cases r1
  refine wpAny_truthy_bool ?_
  cases c with
  | true => exact hb pins s1 σ H1 Q I1 q1
  | false => exact ⟨.bl false, H1, I1, rfl, q1⟩
/-- a if t else b -/
def tIf (t : TT) (ta tb : TE) : TE := fun σ H Q => t σ H fun c H1 => if c = true then ta σ H1 Q else tb σ H1 Q
theorem pe_ifExp {c : Expr} (hc : PT X c tA) (ha : PE X a ta) (hb : PE X b tb) : PE X (.IfExp c a b pos) (tIf tA ta tb) := by
  intro pins s σ H Q I h
  refine wpAny_IfExp (thn (hc pins s σ H _ I h) fun d s1 hq9 => ?_)
  obtain ⟨H1, I1, q1⟩ := hq9
  cases d with
  | true => exact ha pins s1 σ H1 Q I1 q1
  | false => exact hb pins s1 σ H1 Q I1 q1
end
end L2

namespace L2
open PySem PySem.Spec PyProof.Rows

/-! ### a list, a tuple that is read: tracked, frozen, or an object of the module -/
def SqL (K : PySem.W.Frag) (H : Hp) (a : Addr) (xs : List V) : Prop :=
  Rd H a (.lst xs) ∨
    ∃ (o : Obj) (its : Array Value) (n : Nat), K.lookup a = some o ∧ o.cls = .type "list" ∧ o.dict = none ∧ o.data = .seq its n ∧ its.size ≤ sizeLine ∧ Vals xs its.toList
def SqT (K : PySem.W.Frag) (H : Hp) (a : Addr) (xs : List V) : Prop :=
  Rd H a (.tup xs) ∨
    ∃ (o : Obj) (its : Array Value) (n : Nat), K.lookup a = some o ∧ o.cls = .type "tuple" ∧ o.data = .seq its n ∧ its.size ≤ sizeLine ∧ Vals xs its.toList
def absV : Value → Option V
  | .none => some .non
  | .bool b => some (.bl b)
  | .int i _ => some (.int i)
  | .str x _ => some (.str x)
  | .bytes b _ => some (.byt b)
  | .float b _ => some (.flt b)
  | .ref a => some (.ref a)
  | .type n => some (.ty n)
  | _ => none
theorem RelV.abs {x : V} {u : Value} (r : RelV x u) : absV u = some x := by
  cases x with
  | non => cases r; rfl
  | bl _ => cases r; rfl
  | int _ => obtain ⟨t, rfl⟩ := r; rfl
  | str _ => obtain ⟨t, rfl⟩ := r; rfl
  | byt _ => obtain ⟨t, rfl⟩ := r; rfl
  | flt _ => obtain ⟨t, rfl⟩ := r; rfl
  | ref _ => cases r; rfl
  | ty _ => cases r; rfl
theorem RelV.inj {x y : V} {u : Value} (r : RelV x u) (q : RelV y u) : x = y := Option.some.inj (r.abs.symm.trans q.abs)
theorem Vals.inj : ∀ {xs ys : List V} {us : List Value}, Vals xs us → Vals ys us → xs = ys
  | _, _, _, .nil, .nil => rfl
  | _, _, _, .cons r t, .cons r' t' => by rw [r.inj r', Vals.inj t t']
section
variable {X : Cx} {pins : List (Addr × Obj)} {σ : St} {H : Hp} {s : Shared} {a : Addr} {xs ys : List V}
theorem SqL.of {K : PySem.W.Frag} (h : H a = some (.lst xs)) : SqL K H a xs := .inl (.inl h)
theorem SqT.of {K : PySem.W.Frag} (h : H a = some (.tup xs)) : SqT K H a xs := .inl (.inl h)
theorem Inv.list (I : Inv X pins σ H s) (h : SqL X.K H a xs) : ∃ its : List Value, Vals xs its ∧ PlainL s.heap a its.toArray ∧ xs.length ≤ sizeLine := by
  rcases h with h | ⟨o, its, n, hk, hc, hd, hs, hz, r⟩
  · obtain ⟨z, its, n, r, e⟩ := h.ok I.hok
    exact ⟨its, r, ⟨_, n, e, rfl, rfl, rfl⟩, z⟩
  · refine ⟨its.toList, r, ⟨o, n, I.kIn a o hk, hc, hd, by simpa using hs⟩, ?_⟩
    have e := r.length
    simp only [Array.length_toList] at e
    omega
theorem Inv.tuple (I : Inv X pins σ H s) (h : SqT X.K H a xs) : ∃ its : List Value, Vals xs its ∧ IsTup s.heap a its.toArray ∧ xs.length ≤ sizeLine := by
  rcases h with h | ⟨o, its, n, hk, hc, hs, hz, r⟩
  · obtain ⟨z, its, r, p⟩ := h.ok I.hok
    exact ⟨its, r, p, z⟩
  · refine ⟨its.toList, r, ⟨o, I.kIn a o hk, hc, n, by simpa using hs⟩, ?_⟩
    have e := r.length
    simp only [Array.length_toList] at e
    omega
theorem Inv.list_inj (I : Inv X pins σ H s) (h : SqL X.K H a xs) (h' : SqL X.K H a ys) : xs = ys := by
  obtain ⟨its, r, ⟨o, n, e, _, _, d⟩, _⟩ := I.list h
  obtain ⟨its', r', ⟨o', n', e', _, _, d'⟩, _⟩ := I.list h'
  rw [e] at e'; cases e'
  rw [d] at d'
  injection d' with d1 _
  have : its = its' := by simpa using congrArg Array.toList d1
  subst this
  exact r.inj r'
end

/-! ### another wish about exceptions -/
abbrev Cx.wish (X : Cx) (E : Value → Shared → Prop) : Cx := { X with xe := E }
/-- no exception leaves -/
abbrev Cx.nox (X : Cx) : Cx := X.wish fun _ _ => False
theorem Cx.Ok.wish {X : Cx} (ok : X.Ok) (E : Value → Shared → Prop) : (X.wish E).Ok :=
  ⟨ok.mod, ok.kind, ok.glob, ok.blt, ok.above, ok.inj, ok.has, ok.cab, ok.hd, ok.frames, ok.stk, ok.exf, ok.bs, ok.bsz, ok.noex, ok.exfs, ok.funs, ok.frf⟩
theorem Cx.Ok.unwish {X : Cx} {E : Value → Shared → Prop} (ok : (X.wish E).Ok) : X.Ok :=
  ⟨ok.mod, ok.kind, ok.glob, ok.blt, ok.above, ok.inj, ok.has, ok.cab, ok.hd, ok.frames, ok.stk, ok.exf, ok.bs, ok.bsz, ok.noex, ok.exfs, ok.funs, ok.frf⟩
section
variable {X : Cx} {pins : List (Addr × Obj)} {σ : St} {H : Hp} {s : Shared} {E : Value → Shared → Prop}
theorem Inv.wish (I : Inv X pins σ H s) (E : Value → Shared → Prop) : Inv (X.wish E) pins σ H s := ⟨I.ok.wish E, I.os, I.bare, I.base, I.loc, I.cell, I.free, I.freeC, I.pin, I.hok, I.len⟩
theorem Inv.unwish (I : Inv (X.wish E) pins σ H s) : Inv X pins σ H s := ⟨I.ok.unwish, I.os, I.bare, I.base, I.loc, I.cell, I.free, I.freeC, I.pin, I.hok, I.len⟩
theorem SP.unwish {D : Ends} {f : Flow} {s' : Shared} (h : SP (X.wish E) pins D f s') : SP X pins D f s' := by
  cases f with
  | next => obtain ⟨σ', H', I, q⟩ := h; exact ⟨σ', H', I.unwish, q⟩
  | brk => obtain ⟨σ', H', I, q⟩ := h; exact ⟨σ', H', I.unwish, q⟩
  | cont => obtain ⟨σ', H', I, q⟩ := h; exact ⟨σ', H', I.unwish, q⟩
  | ret u => obtain ⟨v, σ', H', I, r, q⟩ := h; exact ⟨v, σ', H', I.unwish, r, q⟩
theorem PSs.nox {st : List Stmt} {t : TS} (h : PSs X.nox st t) : PSs X st t := fun pins s σ H D I hw =>
  wpAny_mono (h pins s σ H D (I.wish _) hw) (fun _ _ q => q.unwish) fun _ _ z => False.elim z
end

/-! ### blocks and small statements -/
section
variable {X : Cx} {st : Stmt} {rest : List Stmt} {t u : TS} {e : Expr} {te : TE} {pos : Pos}
def tNext : TS := fun D σ H => D.nx σ H
def tSeq (t u : TS) : TS := fun D σ H => t { D with nx := u D } σ H
theorem pss_nil : PSs X [] tNext := fun _ _ σ H _ I h => wpAny_execs_nil ⟨σ, H, I, h⟩
theorem pss_cons (h1 : PS X st t) (h2 : PSs X rest u) : PSs X (st :: rest) (tSeq t u) := by
  intro pins s σ H D I h
  refine wpAny_execs_cons (thn (h1 pins s σ H { D with nx := u D } I h) fun f s1 q => ?_)
  cases f with
  | next =>
    obtain ⟨σ', H', I', q⟩ := q
    exact h2 pins s1 σ' H' D I' q
  | ret v => exact q
  | brk => exact q
  | cont => exact q
theorem pss_one (h1 : PS X st t) : PSs X [st] t := by
  intro pins s σ H D I h
  refine wpAny_execs_cons (thn (h1 pins s σ H D I h) fun f s1 q => ?_)
  cases f with
  | next => exact wpAny_execs_nil q
  | ret v => exact q
  | brk => exact q
  | cont => exact q
/-- in a def's body nothing is shown -/
theorem Inv.quiet {pins : List (Addr × Obj)} {σ : St} {H : Hp} {s : Shared} (I : Inv X pins σ H s) : interactive X.env = false := by simp [interactive, I.ok.kind]
/-- an expression whose value is dropped -/
def tDrop (te : TE) : TS := fun D σ H => te σ H fun _ H1 => D.nx σ H1
theorem ps_expr (he : PE X e te) (hs : swapsWith e none pos.line X.env = pure false := by rfl) : PS X (.Expr e pos) (tDrop te) := by
  intro pins s σ H D I h
  exact wpAny_Expr_any (thn (he pins s σ H _ I h) fun v s1 ⟨x, H1, I1, r1, q1⟩ => ⟨σ, H1, I1, q1⟩) I.quiet hs
def tRet (te : TE) : TS := fun D σ H => te σ H D.rt
theorem ps_ret (he : PE X e te) : PS X (.Return (some e) pos) (tRet te) := by
  intro pins s σ H D I h
  exact wpAny_Return_some (thn (he pins s σ H _ I h) fun v s1 ⟨x, H1, I1, r1, q1⟩ => ⟨x, σ, H1, I1, r1, q1⟩)
def tIfS (c : TT) (t u : TS) : TS := fun D σ H => c σ H fun b H1 => if b = true then t D σ H1 else u D σ H1
theorem ps_if {c : Expr} {a b : List Stmt} {tc : TT} (hc : PT X c tc) (ha : PSs X a t) (hb : PSs X b u) : PS X (.If c a b pos) (tIfS tc t u) := by
  intro pins s σ H D I h
  refine wpAny_If (thn (hc pins s σ H _ I h) fun d s1 hq9 => ?_)
  obtain ⟨H1, I1, q1⟩ := hq9
  cases d with
  | true => exact ha pins s1 σ H1 D I1 q1
  | false => exact hb pins s1 σ H1 D I1 q1
/-- code that the proof never comes to -/
def tNever : TS := fun _ _ _ => False
theorem pss_never {sts : List Stmt} : PSs X sts tNever := fun _ _ _ _ _ _ h => h.elim
end

/-! ### targets -/
abbrev TG := V → St → Hp → (St → Hp → Prop) → Prop
def PG (X : Cx) (target : Expr) (t : TG) : Prop :=
  ∀ (pins : List (Addr × Obj)) (s : Shared) (σ : St) (H : Hp) (v : V) (u : Value) (Q : St → Hp → Prop), Inv X pins σ H s → RelV v u → t v σ H Q →
    wpAny (model X.prog X.w) X.A (assign target X.env u) (fun _ s' => ∃ σ' H', Inv X pins σ' H' s' ∧ Q σ' H') X.xe s
/-- o[i] = v, by values -/
abbrev TSet := V → V → V → Hp → (Hp → Prop) → Prop
def PSet (X : Cx) (t : TSet) : Prop :=
  ∀ (pins : List (Addr × Obj)) (s : Shared) (σ : St) (H : Hp) (o i v : V) (ov iv u : Value) (Q : Hp → Prop), Inv X pins σ H s → RelV o ov → RelV i iv → RelV v u → t o i v H Q →
    wpAny (model X.prog X.w) X.A (setItem ov iv u) (fun _ s' => ∃ H', Inv X pins σ H' s' ∧ Q H') X.xe s
section
variable {X : Cx} {pos : Pos}
def gName (i : Nat) : TG := fun v σ H Q => Q (σ.set i (some v)) H
theorem pg_name {i : Nat} {x : Str} (hN : X.N.Nodup) (hi : X.N[i]? = some x) (hx : Loc X.env.scope x) (hf : X.fn x = true ∨ X.env.scope.names.lookup x = some .local := by first | exact .inl rfl | exact .inr rfl | assumption) : PG X (.Name x pos) (gName i) := by
  intro pins s σ H v u Q I r h
  exact wpAny_assign_Name (store_ok I hN hi hx r (fun s' I' => ⟨_, H, I', h⟩) hf)
/-- o[i] = .. -/
def gSub (to ti : TE) (t : TSet) : TG := fun v σ H Q => to σ H fun o H1 => ti σ H1 fun i H2 => t o i v H2 fun H3 => Q σ H3
theorem pg_sub {o i : Expr} {to ti : TE} {t : TSet} (ho : PE X o to) (hi : PE X i ti) (hs : PSet X t)
    (ha : ∀ v, assign (.Subscript o i pos) X.env v = (do
      let ov ← holding [v] (eval o X.env)
      let iv ← holding [v, ov] (eval i X.env)
      standAt pos
      holding [v, ov, iv] (setItem ov iv v)
      release [v, ov, iv] []) := by intro _; rfl) : PG X (.Subscript o i pos) (gSub to ti t) := by
  intro pins s σ H v u Q I r h
  rw [ha]
  refine wpAny_bind (wpAny_holding (thn (ho pins s σ H _ I h) fun ov s1 hq9 => ?_))
  obtain ⟨x, H1, I1, r1, q1⟩ := hq9
  refine wpAny_bind (wpAny_holding (thn (hi pins s1 σ H1 _ I1 q1) fun iv s2 hq9 => ?_))
  obtain ⟨y, H2, I2, r2, q2⟩ := hq9
  refine wpAny_bind (wpAny_standAt (wpAny_bind (wpAny_holding (thn (hs pins s2 σ H2 x y v ov iv u _ I2 r1 r2 r q2) fun _ s3 hq9 => ?_))))
  obtain ⟨H3, I3, q3⟩ := hq9
  exact wpAny_release ⟨σ, H3, I3, q3⟩
/-- target = value -/
def tAsg (te : TE) (g : TG) : TS := fun D σ H => te σ H fun x H1 => g x σ H1 D.nx
theorem ps_asg {tg e : Expr} {te : TE} {g : TG} (he : PE X e te) (hg : PG X tg g) (hs : swapsWithSole [tg] e pos.line X.env = pure false := by rfl) (hw : swappedStores [tg] e X.env = pure none := by rfl)
    (h1 : (assignEach [tg] X.env).map (·.2) = [assign tg X.env] := by rfl) : PS X (.Assign [tg] e pos) (tAsg te g) := by
  intro pins s σ H D I h
  refine wpAny_Assign_stores (thn (he pins s σ H _ I h) fun v s1 ⟨x, H1, I1, r1, q1⟩ => ?_) hs hw
  rw [h1]
  exact thn (hg pins s1 σ H1 x v _ I1 r1 q1) fun _ s2 q => q
/-- name = value -/
theorem ps_set {i : Nat} {x : Str} {e : Expr} {te : TE} {pos' : Pos} (hN : X.N.Nodup) (hi : X.N[i]? = some x) (hx : Loc X.env.scope x) (he : PE X e te) (hs : swapsWith e (some (.Name x pos')) pos.line X.env = pure false := by rfl) (hf : X.fn x = true ∨ X.env.scope.names.lookup x = some .local := by first | exact .inl rfl | exact .inr rfl | assumption) :
    PS X (.Assign [.Name x pos'] e pos) (tAsg te (gName i)) := by
  intro pins s σ H D I h
  refine wpAny_Assign_Name (thn (he pins s σ H _ I h) fun v s1 ⟨y, H1, I1, r1, q1⟩ => ?_) hs
  exact store_ok I1 hN hi hx r1 (fun s2 I2 => ⟨_, H1, I2, q1⟩) hf
end

/-! ### while -/
section
variable {X : Cx} {pos : Pos}
/-- the invariant W with its measure -/
def tWhile (c : TT) (tb : TS) : TS := fun D σ H => ∃ W : Nat → St → Hp → Prop, (∃ m, W m σ H) ∧ ∀ m σ H, W m σ H →
  c σ H fun b H1 => if b = true then ∃ N : St → Hp → Prop, (∀ σ' H', N σ' H' → ∃ m', m' < m ∧ W m' σ' H') ∧ tb { D with nx := N, ct := N, bk := D.nx } σ H1 else D.nx σ H1
theorem ps_while {c : Expr} {body : List Stmt} {tc : TT} {tb : TS} (hp : PassesOwn (model X.prog X.w) X.A X.env X.xe) (hc : PT X c tc) (hb : PSs X body tb) : PS X (.While c body [] pos) (tWhile tc tb) := by
  intro pins s σ H D I h
  obtain ⟨W, ⟨m0, w0⟩, turn⟩ := h
  refine wpAny_While (codeAny_whileLoop (fun n s' => ∃ σ' H', Inv X pins σ' H' s' ∧ W n σ' H') ?_ m0 ⟨σ, H, I, w0⟩)
  rintro n s1 ⟨σ1, H1, I1, w1⟩
  refine wpAny_passesOwn hp (thn (hc pins s1 σ1 H1 _ I1 (turn n σ1 H1 w1)) fun b s2 hq9 => ?_)
  obtain ⟨H2, I2, q2⟩ := hq9
  cases b with
  | true =>
    obtain ⟨N, hN, q2⟩ := q2
    rw [if_pos rfl]
    refine wpAny_passesOwn hp (thn (hb pins s2 σ1 H2 _ I2 q2) fun f s3 q3 => ?_)
    cases f with
    | next =>
      obtain ⟨σ3, H3, I3, n3⟩ := q3
      obtain ⟨m', hm, w3⟩ := hN σ3 H3 n3
      exact ⟨m', hm, σ3, H3, I3, w3⟩
    | cont =>
      obtain ⟨σ3, H3, I3, n3⟩ := q3
      obtain ⟨m', hm, w3⟩ := hN σ3 H3 n3
      exact ⟨m', hm, σ3, H3, I3, w3⟩
    | brk => exact q3
    | ret v => exact q3
  | false =>
    rw [if_neg Bool.false_ne_true]
    exact wpAny_execs_nil ⟨σ1, H2, I2, q2⟩
end

/-! ### what a loop or a comprehension walks -/
/-- at turn i: it yields x (the heap may grow), or it stops -/
structure It where
  go : Nat → Hp → Prop
  yld : Nat → Hp → V → Hp → Prop
  stop : Nat → Hp → Prop
/-- the iterator's own objects may turn: they are not the frame's, not pinned, younger than the entry (or a comprehension's own) -/
def FpOk (X : Cx) (pins : List (Addr × Obj)) (H : Hp) (b : Addr) : Prop :=
  H b = none ∧ b ≠ X.env.locals ∧ b ∉ X.fs ∧ (b ∈ X.ex ∨ X.s_0.heap.objs.size ≤ b) ∧ (∀ x c, X.env.cells.lookup x = some c → c ≠ b) ∧ ∀ p ∈ X.pn ++ pins, p.1 ≠ b
theorem Inv.fpOk {X : Cx} {pins : List (Addr × Obj)} {σ : St} {H H' : Hp} {s : Shared} {b : Addr} (I : Inv X pins σ H s) (hb : s.heap.objs.size ≤ b) (hn : H' b = none) : FpOk X pins H' b := by
  refine ⟨hn, Nat.ne_of_gt (Nat.lt_of_lt_of_le I.lt hb), I.nofs hb, .inr (Nat.le_trans I.sz hb), fun x c e z => ?_, fun p hp z => ?_⟩
  · obtain ⟨v, q⟩ := I.cell x c e
    exact absurd (Nat.lt_of_lt_of_le q.lt (by rw [z]; exact hb)) (Nat.lt_irrefl _)
  · exact absurd (Nat.lt_of_lt_of_le (Heap.lt_size (I.pin p hp).1) (by rw [z]; exact hb)) (Nat.lt_irrefl _)
structure Turn (P : Program) (w : World) (K : PySem.W.Frag) (tg : Expr) (J : It) (fp : List Addr) (it : Addr) (tn : Nat → Heap → Prop) : Prop where
  mem : it ∈ fp
  obj : ∀ i h, tn i h → ∀ b ∈ fp, ∃ o, h.get? b = some o ∧ ∀ v, o.data ≠ .cell v
  keep : ∀ i h h', tn i h → (∀ b ∈ fp, ∀ o, h.get? b = some o → h'.get? b = some o) → tn i h'
  item : ∀ (X : Cx), X.prog = P → X.w = w → X.K = K → X.calm = true → ∀ (i : Nat) (pins : List (Addr × Obj)) (s : Shared) (σ : St) (H : Hp) (E : Value → Shared → Prop), Inv X pins σ H s → (∀ b ∈ fp, FpOk X pins H b) → tn i s.heap → J.go i H →
    wpAny (model P w) X.A (pyNext (.ref it)) (fun r s1 => ∃ u, r = some u ∧
      wpAny (model P w) X.A (letOwnedTupleGo tg (.ref it) u) (fun _ s2 => ∃ x H', Inv X pins σ H' s2 ∧ RelV x u ∧ J.yld i H x H' ∧ tn (i + 1) s2.heap ∧ ∀ b ∈ fp, H' b = none) E s1) E s
  done : ∀ (X : Cx), X.prog = P → X.w = w → X.K = K → X.calm = true → ∀ (i : Nat) (pins : List (Addr × Obj)) (s : Shared) (σ : St) (H : Hp) (E : Value → Shared → Prop), Inv X pins σ H s → (∀ b ∈ fp, FpOk X pins H b) → tn i s.heap → J.stop i H →
    wpAny (model P w) X.A (pyNext (.ref it)) (fun r s1 => r = none ∧ Inv X pins σ H s1) E s
  self : ∀ (A : Around) (i : Nat) (s : Shared) (Q : Value → Shared → Prop) (E : Value → Shared → Prop), tn i s.heap → Q (.ref it) s → wpAny (model P w) A (pyIter (.ref it)) Q E s
abbrev TI := St → Hp → (It → Hp → Prop) → Prop
/-- an iterator has come -/
def PIE (X : Cx) (pins : List (Addr × Obj)) (σ : St) (tg : Expr) (R : It → Hp → Prop) (itv : Value) (s2 : Shared) : Prop :=
  ∃ (it : Addr) (fp : List Addr) (tn : Nat → Heap → Prop) (J : It) (H' : Hp), itv = .ref it ∧ Inv X pins σ H' s2 ∧ Turn X.prog X.w X.K tg J fp it tn ∧ tn 0 s2.heap ∧ (∀ b ∈ fp, FpOk X pins H' b) ∧ R J H'
def PI (X : Cx) (tg iter : Expr) (wi : TI) : Prop :=
  ∀ (pins : List (Addr × Obj)) (s : Shared) (σ : St) (H : Hp) (R : It → Hp → Prop), Inv X pins σ H s → wi σ H R →
    wpAny (model X.prog X.w) X.A (eval iter X.env) (fun v s1 => wpAny (model X.prog X.w) X.A (pyIter v) (PIE X pins σ tg R) X.xe s1) X.xe s

/-- the step ahead of the store is nothing for an iterator that keeps no tuple -/
theorem go_of {M : Model} {A : Around} {E : Value → Shared → Prop} {s : Shared} {tg : Expr} {it : Addr} {u : Value} {o : Obj} {n : String} {vs : Array Value} {Q : Unit → Shared → Prop} (ho : s.heap.get? it = some o) (hc : o.cls = .type n) (hd : o.data = .fields vs)
    (hn : ["enumerate", "zip", "dict_itemiterator", "dict_reverseitemiterator", "odict_iterator", "itertools.zip_longest", "itertools.pairwise"].contains n = false) (hQ : Q () s) : wpAny M A (letOwnedTupleGo tg (.ref it) u) Q E s := by
  unfold letOwnedTupleGo
  cases tg <;> first
    | exact wpAny_pure hQ
    | (cases u <;> first
        | exact wpAny_pure hQ
        | (refine wpAny_bind (wpAny_load ho ?_)
           rw [hc, hd]
           show wpAny M A (if (["enumerate", "zip", "dict_itemiterator", "dict_reverseitemiterator", "odict_iterator", "itertools.zip_longest", "itertools.pairwise"].contains n && vs[0]? == some (rawInt _)) = true then _ else _) Q E s
           rw [if_neg (by intro h; rw [hn, Bool.false_and] at h; cases h)]
           exact wpAny_pure hQ))

/-- the list at a, as it stands at each turn (a loop may append to it) -/
def Itl (K : PySem.W.Frag) (a : Addr) : It :=
  ⟨fun i H => ∃ xs x, SqL K H a xs ∧ xs[i]? = some x, fun i H x H' => H' = H ∧ ∀ xs, SqL K H a xs → xs[i]? = some x, fun i H => ∃ xs, SqL K H a xs ∧ xs.length ≤ i⟩
/-- lo, lo + 1, .. (n of them) -/
def Itr (lo : Int) (n : Nat) : It := ⟨fun i _ => i < n, fun i H x H' => H' = H ∧ x = .int (lo + i), fun i _ => n ≤ i⟩
theorem turn_list {P : Program} {w : World} {K : PySem.W.Frag} {tg : Expr} (a it : Addr) : Turn P w K tg (Itl K a) [it] it (fun i h => h.IsListIter it a i) where
  mem := by simp
  obj := fun i h st b hb => by
    have e : b = it := by simpa using hb
    subst e
    obtain ⟨o, e, c, d⟩ := st
    exact ⟨o, e, fun v z => by rw [d] at z; cases z⟩
  keep := fun i h h' st k => st.at fun o e => k it (by simp) o e
  item := by
    intro X hP hw hK hc i pins s σ H E I hf st hg
    subst hP hw hK
    obtain ⟨xs, x, hq, hx⟩ := hg
    obtain ⟨its, rv, p, hz⟩ := I.list hq
    obtain ⟨u, hu, ru⟩ := rv.get hx
    obtain ⟨f0, f1, f2, f3, f4, f5⟩ := hf it (by simp)
    refine wpAny_pyNext_list_item st p.isList (x := u) (by simpa using hu) fun h' st' sb => ?_
    have I1 : Inv X pins σ H { s with heap := h' } := I.turned (t' := s.toks) (fun b o hb e => (sb.2 b hb).trans e) f0 f1 f3 f4 f5
    obtain ⟨o, e, c, d⟩ := id st'
    exact ⟨u, rfl, go_of (s := { s with heap := h' }) e c d (by decide) ⟨x, H, I1, ru, ⟨rfl, fun ys hy => by rw [I.list_inj hy hq]; exact hx⟩, st', fun b hb => (hf b hb).1⟩⟩
  done := by
    intro X hP hw hK hc i pins s σ H E I hf st hg
    subst hP hw hK
    obtain ⟨xs, hq, hx⟩ := hg
    obtain ⟨its, rv, p, hz⟩ := I.list hq
    obtain ⟨f0, f1, f2, f3, f4, f5⟩ := hf it (by simp)
    have hl := rv.length
    exact wpAny_pyNext_list_end (I.ok.hd hc) st p.isList (by simp; omega) fun h' eb => ⟨rfl, I.turned (t' := s.toks) (fun b o hb e => eb b o hb e) f0 f1 f3 f4 f5⟩
  self := fun _ _ _ _ _ st h => wpAny_pyIter_listiter st h
theorem turn_range {P : Program} {w : World} {K : PySem.W.Frag} {tg : Expr} (it : Addr) (lo : Int) (n : Nat) : Turn P w K tg (Itr lo n) [it] it (fun i h => IsRangeIter h it (lo + (i : Nat) * 1) ((n : Int) - (i : Nat)) 1) where
  mem := by simp
  obj := fun i h st b hb => by
    have e : b = it := by simpa using hb
    subst e
    exact ⟨_, st, fun v z => by
      have z' : Data.fields _ = Data.cell v := z
      cases z'⟩
  keep := fun i h h' st k => k it (by simp) _ st
  item := by
    intro X hP hw hK hc i pins s σ H E I hf st hg
    subst hP hw hK
    obtain ⟨f0, f1, f2, f3, f4, f5⟩ := hf it (by simp)
    have W := Walks.range (prog := X.prog) (w := X.w) (I.ok.hd hc) it lo 1 n
    refine W.item i s _ _ hg st fun v h' tk hv st' kk => ?_
    obtain ⟨t, rfl⟩ := hv
    have I1 : Inv X pins σ H { s with heap := h', toks := tk } := I.turned (fun b o hb e => kk b o (by simpa using hb) e) f0 f1 f3 f4 f5
    refine ⟨_, rfl, go_of (s := { s with heap := h', toks := tk }) (n := "range_iterator") st' rfl rfl (by decide) ⟨.int (lo + i), H, I1, ⟨t, ?_⟩, ⟨rfl, rfl⟩, st', fun b hb => (hf b hb).1⟩⟩
    rw [Int.mul_one]
  done := by
    intro X hP hw hK hc i pins s σ H E I hf st hg
    subst hP hw hK
    obtain ⟨f0, f1, f2, f3, f4, f5⟩ := hf it (by simp)
    exact wpAny_pyNext_range_end (I.ok.hd hc) st (by have : n ≤ i := hg; omega) fun h' eb => ⟨rfl, I.turned (t' := s.toks) (fun b o hb e => eb b o hb e) f0 f1 f3 f4 f5⟩
  self := fun _ _ _ _ _ st h => wpAny_pyIter_rangeiter st h
end L2

namespace L2
open PySem PySem.Spec PyProof.Rows
section
variable {X : Cx} {tg : Expr}
def iList (K : PySem.W.Frag) (tl : TE) : TI := fun σ H R => tl σ H fun x H1 => ∃ a, x = .ref a ∧ (∃ xs, SqL K H1 a xs) ∧ R (Itl K a) H1
theorem pi_list {l : Expr} {tl : TE} (hl : PE X l tl) : PI X tg l (iList X.K tl) := by
  intro pins s σ H R I h
  refine thn (hl pins s σ H _ I h) fun v s1 hq9 => ?_
  obtain ⟨x, H1, I1, r1, q1⟩ := hq9
  obtain ⟨a, e, ⟨xs, hq⟩, q⟩ := q1
  subst e
  cases r1
  obtain ⟨its, rv, p, hz⟩ := I1.list hq
  refine wpAny_pyIter_list p.isList ?_
  refine ⟨s1.heap.objs.size, [s1.heap.objs.size], _, _, H1, rfl, I1.kept (t' := s1.toks) fun b o e => Heap.get?_push_of_some _ e, turn_list a _, ⟨_, Heap.get?_push_size _ rfl, rfl, rfl⟩, fun b hb => ?_, q⟩
  have e : b = s1.heap.objs.size := by simpa using hb
  subst e
  exact I1.fpOk (Nat.le_refl _) (I1.hok.fresh (Nat.le_refl _))
/-- a range object just made, walked -/
theorem range_it {pins : List (Addr × Obj)} {σ : St} {H : Hp} {s : Shared} {R : It → Hp → Prop} {E : Value → Shared → Prop} {lo hi : Int} {t u v : Tok} {tk : Nat} (I : Inv X pins σ H s) (h1 : -(2 ^ 62) ≤ lo) (h2 : lo < 2 ^ 62) (h3 : -(2 ^ 62) ≤ hi) (h4 : hi < 2 ^ 62)
    (q : R (Itr lo (hi - lo).toNat) H) : wpAny (model X.prog X.w) X.A (pyIter (.ref s.heap.objs.size)) (PIE X pins σ tg R) E { s with heap := s.heap.push { cls := .type "range", data := .fields #[.int lo t, .int hi u, .int 1 v] }, toks := tk } := by
  refine wpAny_pyIter_range (IsRange.new ..) (small_one h1 h2 h3 h4) ?_
  have I1 : Inv X pins σ H { s with heap := s.heap.push { cls := .type "range", data := .fields #[.int lo t, .int hi u, .int 1 v] }, toks := tk } := I.kept fun b o e => Heap.get?_push_of_some _ e
  refine ⟨(s.heap.push { cls := .type "range", data := .fields #[.int lo t, .int hi u, .int 1 v] }).objs.size, [(s.heap.push { cls := .type "range", data := .fields #[.int lo t, .int hi u, .int 1 v] }).objs.size], _, _, H, rfl,
    I1.kept (t' := tk) fun b o e => Heap.get?_push_of_some _ e, turn_range _ lo (hi - lo).toNat, ?_, fun b hb => ?_, q⟩
  · have e1 : lo + ((0 : Nat) : Int) * 1 = lo := by simp
    have e2 : (((hi - lo).toNat : Nat) : Int) - ((0 : Nat) : Int) = Builtin.Range.rangeSize lo hi 1 := by rw [rangeSize_one]; split <;> omega
    show IsRangeIter _ _ (lo + ((0 : Nat) : Int) * 1) ((((hi - lo).toNat : Nat) : Int) - ((0 : Nat) : Int)) 1
    rw [e1, e2]
    exact Heap.get?_push_size _ rfl
  · have e : b = (s.heap.push { cls := .type "range", data := .fields #[.int lo t, .int hi u, .int 1 v] }).objs.size := by simpa using hb
    subst e
    exact I1.fpOk (Nat.le_refl _) (I1.hok.fresh (Nat.le_refl _))
def iRng1 (ta : TA) : TI := fun σ H R => ta σ H fun vs H1 => ∃ j : Int, vs = [.int j] ∧ -(2 ^ 62) ≤ j ∧ j < 2 ^ 62 ∧ R (Itr 0 j.toNat) H1
def iRng2 (ta : TA) : TI := fun σ H R => ta σ H fun vs H1 => ∃ i j : Int, vs = [.int i, .int j] ∧ (-(2 ^ 62) ≤ i ∧ i < 2 ^ 62 ∧ -(2 ^ 62) ≤ j ∧ j < 2 ^ 62) ∧ R (Itr i (j - i).toNat) H1
theorem pi_range1 {a : Expr} {ta : TA} {p pos : Pos} (hg : Gl X "range") (hm : X.mg "range" = none) (ha : PA X [a] ta) (hs : starEach [a] X.env = [(false, eval a X.env)] := by rfl) : PI X tg (.Call (.Name "range" p) [a] [] pos) (iRng1 ta) := by
  intro pins s σ H R I h
  refine Call_ (ld_blt I hg hm boot_range (PyProof.Rows.callWith_type1 (thn (ha pos pins s σ H _ I h) fun us s1 ⟨vs, H1, I1, r1, q1⟩ => ?_) hs rfl))
  obtain ⟨j, e, q1, q2, q⟩ := q1
  subst e
  cases r1 with
  | cons r rr =>
    cases rr
    obtain ⟨t, rfl⟩ := r
    exact call_range_1 (range_it I1 (by omega) (by omega) q1 q2 (by simpa using q))
theorem pi_range2 {a b : Expr} {ta : TA} {p pos : Pos} (hg : Gl X "range") (hm : X.mg "range" = none) (ha : PA X [a, b] ta) (hs : starEach [a, b] X.env = [(false, eval a X.env), (false, eval b X.env)] := by rfl) (hs2 : starEach [b] X.env = [(false, eval b X.env)] := by rfl) :
    PI X tg (.Call (.Name "range" p) [a, b] [] pos) (iRng2 ta) := by
  intro pins s σ H R I h
  refine Call_ (ld_blt I hg hm boot_range (PyProof.Rows.callWith_type1 (thn (ha pos pins s σ H _ I h) fun us s1 ⟨vs, H1, I1, r1, q1⟩ => ?_) (by rw [hs, hs2]) (by rw [hs2]; rfl)))
  obtain ⟨i, j, e, ⟨q1, q2, q3, q4⟩, q⟩ := q1
  subst e
  cases r1 with
  | cons r rr =>
    cases rr with
    | cons r' rr =>
      cases rr
      obtain ⟨t, rfl⟩ := r
      obtain ⟨t', rfl⟩ := r'
      exact call_range_2 (range_it I1 q1 q2 q3 q4 q)

/-! ### for -/
/-- W: the invariant by the turn and a measure; N: what the body is to reach -/
def tFor (wi : TI) (g : TG) (tb : TS) : TS := fun D σ H => wi σ H fun J H1 => ∃ W : Nat → Nat → St → Hp → Prop, (∃ m, W 0 m σ H1) ∧ ∀ i m σ H, W i m σ H →
  (J.stop i H ∧ D.nx σ H) ∨ (J.go i H ∧ ∃ N : St → Hp → Prop, (∀ σ' H', N σ' H' → ∃ m', m' < m ∧ W (i + 1) m' σ' H') ∧ ∀ x H', J.yld i H x H' → g x σ H' fun σ2 H2 => tb { D with nx := N, ct := N, bk := D.nx } σ2 H2)
/-- the records at fp as they stand -/
def pinsAt (fp : List Addr) (h : Heap) : List (Addr × Obj) := fp.filterMap fun b => (h.get? b).map fun o => (b, o)
theorem mem_pinsAt {fp : List Addr} {h : Heap} {b : Addr} {o : Obj} (hb : b ∈ fp) (e : h.get? b = some o) : (b, o) ∈ pinsAt fp h := List.mem_filterMap.mpr ⟨b, hb, by rw [e]; rfl⟩
theorem of_pinsAt {fp : List Addr} {h : Heap} {p : Addr × Obj} (hp : p ∈ pinsAt fp h) : p.1 ∈ fp ∧ h.get? p.1 = some p.2 := by
  obtain ⟨b, hb, e⟩ := List.mem_filterMap.mp hp
  cases q : h.get? b with
  | none => rw [q] at e; cases e
  | some o =>
    rw [q] at e
    have e' : (b, o) = p := Option.some.inj e
    subst e'
    exact ⟨hb, q⟩
theorem Inv.pinned {pins : List (Addr × Obj)} {σ : St} {H : Hp} {s : Shared} {fp : List Addr} (I : Inv X pins σ H s) (hf : ∀ b ∈ fp, FpOk X pins H b) (ho : ∀ b ∈ fp, ∃ o, s.heap.get? b = some o ∧ ∀ v, o.data ≠ .cell v) : Inv X (pins ++ pinsAt fp s.heap) σ H s :=
  I.pins_of fun p hp => (List.mem_append.mp hp).elim (fun z => I.pin p (List.mem_append_right _ z)) fun z => by
    obtain ⟨hb, e⟩ := of_pinsAt z
    obtain ⟨f0, f1, f2, _⟩ := hf p.1 hb
    obtain ⟨o, e', d⟩ := ho p.1 hb
    rw [e] at e'; cases e'
    exact ⟨e, f0, f1, f2, d⟩
theorem Inv.unpinned {pins pl : List (Addr × Obj)} {σ : St} {H : Hp} {s : Shared} (I : Inv X (pins ++ pl) σ H s) : Inv X pins σ H s := I.pins_of fun p hp => I.pin p (List.mem_append_right _ (List.mem_append_left _ hp))
theorem ps_for {iter : Expr} {body : List Stmt} {wi : TI} {g : TG} {tb : TS} {pos : Pos} (hp : PassesOwn (model X.prog X.w) X.A X.env X.xe) (hc : X.calm = true) (hi : PI X tg iter wi) (hg : PG X tg g) (hb : PSs X body tb)
    (hs : ∀ x, foldedSetIterable iter X.env x = pure x := by intro _; rfl) : PS X (.For tg iter body [] pos) (tFor wi g tb) := by
  intro pins s σ H D I h
  refine wpAny_For (thn (hi pins s σ H _ I h) fun v s1 h1 => thn h1 fun itv s2 h2 => ?_) hs
  obtain ⟨it, fp, tn, J, H2, e, I2, T, st2, f2, W, ⟨m0, w0⟩, turn⟩ := h2
  subst e
  -- what stays true of the iterator's objects through the loop
  have stat : ∀ {H' : Hp}, (∀ b ∈ fp, H' b = none) → ∀ b ∈ fp, FpOk X pins H' b := fun hn b hb => ⟨hn b hb, (f2 b hb).2⟩
  refine codeAny_forLoop_any (fun n s' => ∃ i σ' H', Inv X pins σ' H' s' ∧ tn i s'.heap ∧ (∀ b ∈ fp, H' b = none) ∧ W i n σ' H') ?_ m0 ⟨0, σ, H2, I2, st2, fun b hb => (f2 b hb).1, w0⟩
  rintro n s3 ⟨i, σ3, H3, I3, st3, fr3, w3⟩
  rcases turn i n σ3 H3 w3 with ⟨stop, qn⟩ | ⟨go, N, hN, step⟩
  · refine wpAny_passesOwn hp (thn (T.done X rfl rfl rfl hc i pins s3 σ3 H3 X.xe I3 (stat fr3) st3 stop) fun r s4 hq9 => ?_)
    obtain ⟨hr, I4⟩ := hq9
    subst hr
    exact wpAny_execs_nil ⟨σ3, H3, I4, qn⟩
  · refine wpAny_passesOwn hp (thn (T.item X rfl rfl rfl hc i pins s3 σ3 H3 X.xe I3 (stat fr3) st3 go) fun r s4 hq9 => ?_)
    obtain ⟨u, hr, h4⟩ := hq9
    subst hr
    refine wpAny_passesOwn hp (thn h4 fun _ s5 hq9 => ?_)
    obtain ⟨x, H5, I5, r5, y5, st5, fr5⟩ := hq9
    have I5' := I5.pinned (stat fr5) (T.obj _ _ st5)
    refine wpAny_passesOwn hp (thn (hg _ s5 σ3 H5 x u _ I5' r5 (step x H5 y5)) fun _ s6 hq9 => ?_)
    obtain ⟨σ6, H6, I6, q6⟩ := hq9
    refine wpAny_passesOwn hp (thn (hb _ s6 σ6 H6 _ I6 q6) fun f s7 q7 => ?_)
    have again : ∀ {σ7 : St} {H7 : Hp}, Inv X (pins ++ pinsAt fp s5.heap) σ7 H7 s7 → N σ7 H7 → ∃ m, m < n ∧ ∃ i σ' H', Inv X pins σ' H' s7 ∧ tn i s7.heap ∧ (∀ b ∈ fp, H' b = none) ∧ W i m σ' H' := fun {σ7 H7} I7 n7 => by
      obtain ⟨m', hm, w7⟩ := hN σ7 H7 n7
      refine ⟨m', hm, i + 1, σ7, H7, I7.unpinned, T.keep _ _ _ st5 fun b hb o e => (I7.pin (b, o) (List.mem_append_right _ (List.mem_append_right _ (mem_pinsAt hb e)))).1, fun b hb => ?_, w7⟩
      obtain ⟨o, e, d⟩ := T.obj _ _ st5 b hb
      exact (I7.pin (b, o) (List.mem_append_right _ (List.mem_append_right _ (mem_pinsAt hb e)))).2.1
    cases f with
    | next => obtain ⟨σ7, H7, I7, n7⟩ := q7; exact again I7 n7
    | cont => obtain ⟨σ7, H7, I7, n7⟩ := q7; exact again I7 n7
    | brk => obtain ⟨σ7, H7, I7, q7⟩ := q7; exact ⟨σ7, H7, I7.unpinned, q7⟩
    | ret v => obtain ⟨x7, σ7, H7, I7, r7, q7⟩ := q7; exact ⟨x7, σ7, H7, I7.unpinned, r7, q7⟩
end

/-! ### the forms one uses -/
/-- over a list that the body leaves as it is -/
theorem for_list {K : PySem.W.Frag} {a : Addr} {xs : List V} {g : TG} {tb : TS} {D : Ends} {σ : St} {H : Hp} (Pv : Nat → St → Hp → Prop) (h0 : Pv 0 σ H) (hl : ∀ i σ H, i ≤ xs.length → Pv i σ H → SqL K H a xs)
    (hs : ∀ i x σ H, xs[i]? = some x → Pv i σ H → g x σ H fun σ2 H2 => tb { D with nx := Pv (i + 1), ct := Pv (i + 1), bk := D.nx } σ2 H2) (hd : ∀ σ H, Pv xs.length σ H → D.nx σ H) :
    ∃ W : Nat → Nat → St → Hp → Prop, (∃ m, W 0 m σ H) ∧ ∀ i m σ H, W i m σ H →
      ((Itl K a).stop i H ∧ D.nx σ H) ∨ ((Itl K a).go i H ∧ ∃ N : St → Hp → Prop, (∀ σ' H', N σ' H' → ∃ m', m' < m ∧ W (i + 1) m' σ' H') ∧ ∀ x H', (Itl K a).yld i H x H' → g x σ H' fun σ2 H2 => tb { D with nx := N, ct := N, bk := D.nx } σ2 H2) := by
  refine ⟨fun i m σ H => m = xs.length - i ∧ i ≤ xs.length ∧ Pv i σ H, ⟨xs.length, by simp, Nat.zero_le _, h0⟩, ?_⟩
  rintro i m σ H ⟨rfl, hi, p⟩
  have q := hl i σ H hi p
  by_cases hlt : i < xs.length
  · refine .inr ⟨⟨xs, xs[i], q, by simp [hlt]⟩, Pv (i + 1), fun σ' H' p' => ⟨xs.length - (i + 1), by omega, rfl, hlt, p'⟩, fun x H' y => ?_⟩
    obtain ⟨e, y⟩ := y
    subst e
    exact hs i x σ _ (y xs q) p
  · have e : i = xs.length := by omega
    subst e
    exact .inl ⟨⟨xs, q, Nat.le_refl _⟩, hd σ H p⟩
theorem for_range {lo : Int} {n : Nat} {g : TG} {tb : TS} {D : Ends} {σ : St} {H : Hp} (Pv : Nat → St → Hp → Prop) (h0 : Pv 0 σ H)
    (hs : ∀ i σ H, i < n → Pv i σ H → g (.int (lo + i)) σ H fun σ2 H2 => tb { D with nx := Pv (i + 1), ct := Pv (i + 1), bk := D.nx } σ2 H2) (hd : ∀ σ H, Pv n σ H → D.nx σ H) :
    ∃ W : Nat → Nat → St → Hp → Prop, (∃ m, W 0 m σ H) ∧ ∀ i m σ H, W i m σ H →
      ((Itr lo n).stop i H ∧ D.nx σ H) ∨ ((Itr lo n).go i H ∧ ∃ N : St → Hp → Prop, (∀ σ' H', N σ' H' → ∃ m', m' < m ∧ W (i + 1) m' σ' H') ∧ ∀ x H', (Itr lo n).yld i H x H' → g x σ H' fun σ2 H2 => tb { D with nx := N, ct := N, bk := D.nx } σ2 H2) := by
  refine ⟨fun i m σ H => m = n - i ∧ i ≤ n ∧ Pv i σ H, ⟨n, by simp, Nat.zero_le _, h0⟩, ?_⟩
  rintro i m σ H ⟨rfl, hi, p⟩
  by_cases hlt : i < n
  · refine .inr ⟨hlt, Pv (i + 1), fun σ' H' p' => ⟨n - (i + 1), by omega, rfl, hlt, p'⟩, fun x H' y => ?_⟩
    obtain ⟨e, y⟩ := y
    subst e y
    exact hs i σ _ hlt p
  · have e : i = n := by omega
    subst e
    exact .inl ⟨Nat.le_refl _, hd σ H p⟩
end L2

namespace L2
open PySem PySem.Spec PyProof.Rows

abbrev R2 := V → V → Hp → VK → Prop
/-- a two-place operation on values: f is binaryOp op, inplaceOp op or compareOp op -/
def OpR (X : Cx) (f : Value → Value → Sem Value) (r : R2) : Prop :=
  ∀ (pins : List (Addr × Obj)) (s : Shared) (σ : St) (H : Hp) (x y : V) (v u : Value) (Q : VK), Inv X pins σ H s → RelV x v → RelV y u → r x y H Q →
    wpAny (model X.prog X.w) X.A (f v u) (EP X pins σ Q) X.xe s
/-- a one-place operation -/
def UnR (X : Cx) (f : Value → Sem Value) (r : V → Hp → VK → Prop) : Prop :=
  ∀ (pins : List (Addr × Obj)) (s : Shared) (σ : St) (H : Hp) (x : V) (v : Value) (Q : VK), Inv X pins σ H s → RelV x v → r x H Q →
    wpAny (model X.prog X.w) X.A (f v) (EP X pins σ Q) X.xe s
/-- a call of a value that is known (a builtin, a type) with values -/
def CallR (X : Cx) (f : Value) (r : List V → Hp → VK → Prop) : Prop :=
  ∀ (pins : List (Addr × Obj)) (s : Shared) (σ : St) (H : Hp) (xs : List V) (us : List Value) (Q : VK), Inv X pins σ H s → Vals xs us → r xs H Q →
    wpAny (model X.prog X.w) X.A (call f us) (EP X pins σ Q) X.xe s
def tOp (r : R2) (ta tb : TE) : TE := fun σ H Q => ta σ H fun x H1 => tb σ H1 fun y H2 => r x y H2 Q
def tUn (r : V → Hp → VK → Prop) (ta : TE) : TE := fun σ H Q => ta σ H fun x H1 => r x H1 Q
def rI0 (g : Int → Int → V) : R2 := fun x y H Q => ∃ i j, x = .int i ∧ y = .int j ∧ Q (g i j) H
def rU (g : Int → V) : V → Hp → VK → Prop := fun x H Q => ∃ i, x = .int i ∧ Q (g i) H

section
variable {X : Cx} {a b c : Expr} {ta tb tc : TE} {pos : Pos}

theorem binT (ha : PE X a ta) (hb : PE X b tb) {pins : List (Addr × Obj)} {s : Shared} {σ : St} {H : Hp} {R : V → V → Hp → Prop} (I : Inv X pins σ H s)
    (h : ta σ H fun x H1 => tb σ H1 fun y H2 => R x y H2) {Q : Value → Shared → Prop} {f : Value → Value → Sem Value}
    (hf : ∀ v u s2 x y H2, Inv X pins σ H2 s2 → RelV x v → RelV y u → R x y H2 → wpAny (model X.prog X.w) X.A (f v u) Q X.xe s2) :
    wpAny (model X.prog X.w) X.A (eval a X.env) (fun v s₁ => wpAny (model X.prog X.w) X.A (eval b X.env) (fun u s₂ => wpAny (model X.prog X.w) X.A (f v u) Q X.xe s₂) X.xe s₁) X.xe s := by
  refine thn (ha pins s σ H _ I h) fun v s1 hq9 => ?_
  obtain ⟨x, H1, I1, r1, q1⟩ := hq9
  refine thn (hb pins s1 σ H1 _ I1 q1) fun u s2 hq9 => ?_
  obtain ⟨y, H2, I2, r2, q2⟩ := hq9
  exact hf v u s2 x y H2 I2 r1 r2 q2

theorem pe_op {op : Operator} {r : R2} (ho : OpR X (binaryOp op) r) (ha : PE X a ta) (hb : PE X b tb) : PE X (.BinOp a op b pos) (tOp r ta tb) := by
  intro pins s σ H Q I h
  exact wpAny_BinOp (binT ha hb I h fun v u s2 x y H2 I2 rx ry q => ho pins s2 σ H2 x y v u Q I2 rx ry q)
theorem pe_un {op : UnaryOp} {r : V → Hp → VK → Prop} (ho : UnR X (unaryOp op) r) (ha : PE X a ta) : PE X (.UnaryOp op a pos) (tUn r ta) := by
  intro pins s σ H Q I h
  exact UnaryOp_ (thn (ha pins s σ H _ I h) fun v s1 ⟨x, H1, I1, r1, q1⟩ => ho pins s1 σ H1 x v Q I1 r1 q1)
/-! ### ints -/
theorem opI0 {f : Value → Value → Sem Value} {g : Int → Int → Int}
    (rule : ∀ (i j : Int) (t u : Tok) (s : Shared) (Q : Value → Shared → Prop) (E : Value → Shared → Prop), Q (.int (g i j) s.toks) { s with toks := s.toks + 1 } → wpAny (model X.prog X.w) X.A (f (.int i t) (.int j u)) Q E s) :
    OpR X f (rI0 fun i j => .int (g i j)) := by
  intro pins s σ H x y v u Q I rx ry h
  obtain ⟨i, j, rfl, rfl, q⟩ := h
  obtain ⟨t, rfl⟩ := rx
  obtain ⟨t', rfl⟩ := ry
  exact rule i j t t' s _ _ ⟨.int (g i j), H, I.tok _, ⟨_, rfl⟩, q⟩
theorem opB0 {f : Value → Value → Sem Value} {g : Int → Int → Bool}
    (rule : ∀ (i j : Int) (t u : Tok) (s : Shared) (Q : Value → Shared → Prop) (E : Value → Shared → Prop), Q (.bool (g i j)) s → wpAny (model X.prog X.w) X.A (f (.int i t) (.int j u)) Q E s) :
    OpR X f (rI0 fun i j => .bl (g i j)) := by
  intro pins s σ H x y v u Q I rx ry h
  obtain ⟨i, j, rfl, rfl, q⟩ := h
  obtain ⟨t, rfl⟩ := rx
  obtain ⟨t', rfl⟩ := ry
  exact rule i j t t' s _ _ ⟨.bl (g i j), H, I, rfl, q⟩

theorem op_add : OpR X (binaryOp .Add) (rI0 fun i j => .int (i + j)) := opI0 fun _ _ _ _ _ _ _ q => add_int q
theorem op_sub : OpR X (binaryOp .Sub) (rI0 fun i j => .int (i - j)) := opI0 fun _ _ _ _ _ _ _ q => sub_int q
theorem unI {f : Value → Sem Value} {g : Int → Int}
    (rule : ∀ (i : Int) (t : Tok) (s : Shared) (Q : Value → Shared → Prop) (E : Value → Shared → Prop), Q (.int (g i) s.toks) { s with toks := s.toks + 1 } → wpAny (model X.prog X.w) X.A (f (.int i t)) Q E s) :
    UnR X f (rU fun i => .int (g i)) := by
  intro pins s σ H x v Q I rx h
  obtain ⟨i, rfl, q⟩ := h
  obtain ⟨t, rfl⟩ := rx
  exact rule i t s _ _ ⟨.int (g i), H, I.tok _, ⟨_, rfl⟩, q⟩
theorem un_neg : UnR X (unaryOp .USub) (rU fun i => .int (-i)) := unI fun _ _ _ _ _ q => neg_int q
/-! ### bools among ints: n += (a < b) -/
end

/-! ### comparisons -/
section
variable {X : Cx} {a b c : Expr} {ta tb tc : TE} {pos : Pos}
theorem op_lt : OpR X (compareOp .Lt) (rI0 fun i j => .bl (decide (i < j))) := opB0 fun _ _ _ _ _ _ _ q => lt_int q
theorem op_le : OpR X (compareOp .LtE) (rI0 fun i j => .bl (decide (i ≤ j))) := opB0 fun _ _ _ _ _ _ _ q => le_int q
theorem op_gt : OpR X (compareOp .Gt) (rI0 fun i j => .bl (decide (j < i))) := opB0 fun _ _ _ _ _ _ _ q => gt_int q
theorem op_ge : OpR X (compareOp .GtE) (rI0 fun i j => .bl (decide (j ≤ i))) := opB0 fun _ _ _ _ _ _ _ q => ge_int q
theorem nomark (b : Expr) {op : CmpOp} (h : op ≠ .In := by decide) (h2 : op ≠ .NotIn := by decide) : behindInMarks op b = false := by
  have e1 : (op == CmpOp.In) = false := by cases op <;> first | rfl | exact absurd rfl h
  have e2 : (op == CmpOp.NotIn) = false := by cases op <;> first | rfl | exact absurd rfl h2
  cases b <;> simp [behindInMarks, e1, e2]
/-- a comparison as a value; hm: nomark b, or (for in, not in) by with_unfolding_all rfl -/
theorem pe_cmpR {op : CmpOp} {r : R2} (ho : OpR X (compareOp op) r) (ha : PE X a ta) (hb : PE X b tb) (hm : behindInMarks op b = false) : PE X (.Compare a [op] [b] pos) (tOp r ta tb) := by
  intro pins s σ H Q I h
  exact wpAny_Compare1 (binT ha hb I h fun v u s2 x y H2 I2 rx ry q => ho pins s2 σ H2 x y v u Q I2 rx ry q) hm
/-- a reading of a value as a test -/
def tTest (t : TE) : TT := fun σ H Q => t σ H fun x H' => ∃ k, x = .bl k ∧ Q k H'
theorem pt_cmpR {op : CmpOp} {r : R2} (ho : OpR X (compareOp op) r) (ha : PE X a ta) (hb : PE X b tb) (hm : behindInMarks op b = false) : PT X (.Compare a [op] [b] pos) (tTest (tOp r ta tb)) := by
  intro pins s σ H Q I h
  refine wpAny_isTrue_Compare1 (thn (ha pins s σ H _ I h) fun v s1 ⟨x, H1, I1, r1, q1⟩ => thn (hb pins s1 σ H1 _ I1 q1) fun u s2 ⟨y, H2, I2, r2, q2⟩ =>
    thn (ho pins s2 σ H2 x y v u _ I2 r1 r2 q2) fun c s3 ⟨z, H3, I3, r3, k, e, q3⟩ => ?_) hm
  subst e
  cases r3
  exact wpAny_truthy_bool ⟨H3, I3, q3⟩
/-- a op1 b op2 c -/
def tChain (r r' : R2) (ta tb tc : TE) : TE := fun σ H Q => ta σ H fun x H1 => tb σ H1 fun y H2 => r x y H2 fun z H3 => ∃ k, z = .bl k ∧
  (if k = true then tc σ H3 fun w' H4 => r' y w' H4 Q else Q (.bl false) H3)
theorem pe_chain {op op' : CmpOp} {r r' : R2} (ho : OpR X (compareOp op) r) (ho' : OpR X (compareOp op') r') (ha : PE X a ta) (hb : PE X b tb) (hc : PE X c tc)
    (hm : lastMarks [op, op'] [b, c] = false := by with_unfolding_all rfl) : PE X (.Compare a [op, op'] [b, c] pos) (tChain r r' ta tb tc) := by
  intro pins s σ H Q I h
  refine Compare_chain (thn (ha pins s σ H _ I h) fun v s1 ⟨x, H1, I1, r1, q1⟩ => chain_link (thn (hb pins s1 σ H1 _ I1 q1) fun u s2 ⟨y, H2, I2, r2, q2⟩ =>
    thn (ho pins s2 σ H2 x y v u _ I2 r1 r2 q2) fun d s3 ⟨z, H3, I3, r3, k, e, q3⟩ => ?_)) hm
  subst e
  cases r3
  refine wpAny_truthy_bool ?_
  cases k with
  | false => exact ite_ff ⟨.bl false, H3, I3, rfl, q3⟩
  | true => exact ite_tt (chain_last (thn (hc pins s3 σ H3 _ I3 q3) fun w' s4 ⟨z', H4, I4, r4, q4⟩ => ho' pins s4 σ H4 y z' u w' Q I4 r2 r4 q4))
/-! ### truth -/
theorem line63 : (sizeLine : Nat) < 2 ^ 63 := by rw [sizeLine_eq]; decide
/-! ### strs and bytes -/
/-! ### scalar builtins, by CallR -/
theorem vals1 {x : V} {us : List Value} (r : Vals [x] us) : ∃ u, us = [u] ∧ RelV x u := by
  cases r with
  | cons r1 r2 => cases r2; exact ⟨_, rfl, r1⟩
theorem vals2 {x y : V} {us : List Value} (r : Vals [x, y] us) : ∃ u w', us = [u, w'] ∧ RelV x u ∧ RelV y w' := by
  cases r with
  | cons r1 r2 =>
    cases r2 with
    | cons r3 r4 => cases r4; exact ⟨_, _, rfl, r1, r3⟩
theorem call_min2 (hc : X.calm = true) : CallR X (.builtin "min") (fun xs H Q => ∃ i j, xs = [.int i, .int j] ∧ Q (.int (if j < i then j else i)) H) := by
  intro pins s σ H xs us Q I r h
  obtain ⟨i, j, rfl, q⟩ := h
  obtain ⟨u, w', rfl, ⟨t, rfl⟩, ⟨t', rfl⟩⟩ := vals2 r
  refine min_two_ints (I.ok.hd hc) fun h' tk k => ⟨_, H, I.kept k, ?_, q⟩
  by_cases hj : j < i
  · rw [if_pos hj, if_pos hj]; exact ⟨_, rfl⟩
  · rw [if_neg hj, if_neg hj]; exact ⟨_, rfl⟩
end
end L2

namespace L2
open PySem PySem.Spec PyProof.Rows

/-! ### an instance, its attributes a map -/
structure ObjM (h : Heap) (x dx C : Addr) (mA : Str → Option Value) : Prop where
  obj : h.get? x = some (PySem.W.instObj C dx)
  ns : h.Ns1 dx mA
  ne : dx ≠ x

theorem lookIn_ns {h : Heap} {dx : Addr} {mA : Str → Option Value} (n : h.Ns1 dx mA) : ∃ od, h.get? dx = some od ∧ ∀ name, PySem.W.lookIn name od = some (mA name) := by
  obtain ⟨o, es, ep, ho, hd, hk, _, hm⟩ := n
  refine ⟨o, ho, fun name => ?_⟩
  have e := hm name
  unfold nsFind findBy at e
  rw [← Array.find?_toList] at e
  unfold PySem.W.lookIn
  rw [hd]
  dsimp only
  split
  · rename_i y q
    rw [q] at e
    exact congrArg some e
  · rename_i q
    rw [q] at e
    have a : es.toList.any (·.refKey) = false := by
      rw [List.any_eq_false]
      intro y hy
      obtain ⟨z, t, hkey⟩ := hk y (Array.mem_toList_iff.mp hy)
      simp [DictEntry.refKey, hkey]
    have a' : ¬ es.toList.any (·.refKey) = true := by rw [a]; exact Bool.false_ne_true
    rw [if_neg a']
    exact congrArg some e

theorem ObjM.look {h : Heap} {x dx C : Addr} {mA : Str → Option Value} (I : ObjM h x dx C mA) : ∃ od, PySem.W.InstAt h x (PySem.W.instObj C dx) C (some od) ∧ ∀ name, PySem.W.lookIn name od = some (mA name) :=
  let ⟨od, ho, hl⟩ := lookIn_ns I.ns
  ⟨od, ⟨I.obj, rfl, rfl, ho⟩, hl⟩

section
variable {prog : Program} {w : World} {A : Around} {E : Value → Shared → Prop} {s : Shared} {K : PySem.W.Frag} {x dx C f : Addr} {mA : Str → Option Value} {name : Str} {v : Value}

theorem get_map {expr : Bool} {Q : Value → Shared → Prop} (X : K.In s.heap) (I : ObjM s.heap x dx C mA) (hg : PySem.W.plainGet K C name = true) (hh : PySem.W.hasDictIn K C = true)
    (ha : PySem.W.findIn K (.ref C) name = some none) (hv : mA name = some v) (hv' : PySem.W.handedIn v = true) (h : Q v { s with toks := s.toks + 1 }) :
    wpAny (model prog w) A (getAttr (.ref x) name expr) Q E s := by
  obtain ⟨od, J, hl⟩ := I.look
  exact PySem.W.get_value X J (PySem.W.plainGet_of hg).1 (PySem.W.findObj_own hh ha rfl (by rw [hl, hv])) hv' h

theorem get_meth {pl : Sem Bool} {Q : Value × List Value → Shared → Prop} (X : K.In s.heap) (I : ObjM s.heap x dx C mA) (hg : PySem.W.plainGet K C name = true)
    (hf : PySem.W.findIn K (.ref C) name = some (some (.ref f))) (ht : PySem.W.isFn K (.ref f) = true) (hv : mA name = none) (h : Q (.ref f, [.ref x]) s) :
    wpAny (model prog w) A (getMethod (.ref x) name pl) Q E s := by
  obtain ⟨od, J, hl⟩ := I.look
  exact PySem.W.method_fn X J (PySem.W.plainGet_of hg).1 (PySem.W.plainGet_of hg).2 hf (beq_iff_eq.mp ht) (by show (PySem.W.lookIn name od).map (·.isSome) = some false; rw [hl, hv]; rfl) h

theorem set_map {ns : List Str} {Q : Unit → Shared → Prop} (X : K.In s.heap) (I : ObjM s.heap x dx C mA)
    (hs : PySem.W.findIn K (.ref C) "__setattr__" = some (some (.builtin "object.__setattr__"))) (hp : PySem.W.plainOver K C = true) (ht : PySem.W.takerIn K C name = some none) (hh : PySem.W.hasDictIn K C = true)
    (hw : PySem.Within mA ns) (hsz : ns.length ≤ sizeLine)
    (h : ∀ h', ObjM h' x dx C (fun y => if y = name then some v else mA y) → Heap.SameBut dx s.heap h' → Q () { s with heap := h', toks := s.toks + 2 }) :
    wpAny (model prog w) A (setAttr (.ref x) name v) Q E s := by
  obtain ⟨od, J, hl⟩ := I.look
  refine PySem.W.set_plain X J hs (PySem.W.osa_open (s := { s with toks := s.toks + 1 }) (r := none) X J hp ht fun b => ?_)
  obtain ⟨cd, hc, hd'⟩ := PySem.W.any_some hh
  have hx : s.heap.get? x = some ⟨.ref C, some dx, .plain, #[]⟩ := I.obj
  refine wpAny_bind (wpAny_pure (wpAny_bind (wpAny_bind (wpAny_loadPart hx (wpAny_bind (PySem.W.Looks.here (s := { s with toks := s.toks + 1 }) (PySem.W.looks_clsIn X hc) ?_))))))
  rw [hd']
  refine wpAny_pure (a := some dx) (wpAny_bind (wpAny_pure (wpAny_bind ?_)))
  refine wpAny_nsSet1 (s := { s with toks := s.toks + 1 }) I.ns fun h' hn2 hs2 => ?_
  obtain ⟨oD, esD, epD, hoD, hdD, hcD⟩ := hn2.count (PySem.Within.cons name v hw)
  refine wpAny_bind (wpAny_lookBehind hoD (by rw [hdD]; exact pastItsLine_dict (Nat.le_trans hcD (by rw [List.length_cons]; omega))) ?_)
  exact wpAny_pure (h _ ⟨(hs2.2 _ (Ne.symm I.ne)).trans I.obj, hn2, I.ne⟩ hs2)

/-- C(..): the dict at the heap's end, the instance behind it; then its __init__ -/
theorem make_map {R : Result → Shared → Prop} {vs : List Value} {kw : List (Str × Value)} (X : K.In s.heap) (hm : PySem.W.makesIn K C = true)
    (hi : PySem.W.findIn K (.ref C) "__init__" = some (some (.ref f))) (hf : PySem.W.typeIn K (.ref f) = some (.type "function"))
    (h : codeAny (model prog w) (A.under (.builtin "type.__call__" ⟨.ref C :: vs, kw⟩)) (.call (.ref f) ⟨.ref (s.heap.objs.size + 1) :: vs, kw⟩) (PySem.W.InitBack (s.heap.objs.size + 1) R)
      { s with heap := (s.heap.push PySem.W.emptyDict).push (PySem.W.instObj C s.heap.objs.size) }) :
    codeAny (model prog w) A (.call (.ref C) ⟨vs, kw⟩) R s := by
  obtain ⟨hh, g, d, t, os⟩ := s
  exact PySem.W.make_core (PySem.W.makes_of X hm) (PySem.W.looks_findIn X hi) (fun self => PySem.W.bind_fn X self hf) (.inl rfl) h
end

/-! ### the attributes as a list of pairs -/
def putF (f : Str) (v : V) : List (Str × V) → List (Str × V)
  | [] => [(f, v)]
  | (g, x) :: r => if g = f then (g, v) :: r else (g, x) :: putF f v r
theorem lookup_putF (f g : Str) (v : V) : ∀ fs : List (Str × V), (putF f v fs).lookup g = if g = f then some v else fs.lookup g
  | [] => by
    show List.lookup g [(f, v)] = _
    by_cases h : g = f
    · have hb : (g == f) = true := beq_iff_eq.mpr h
      simp only [List.lookup, hb, if_pos h]
    · have hb : (g == f) = false := beq_eq_false_iff_ne.mpr h
      simp only [List.lookup, hb, if_neg h]
  | (k, x) :: r => by
    have ih := lookup_putF f g v r
    rw [show putF f v ((k, x) :: r) = (if k = f then (k, v) :: r else (k, x) :: putF f v r) from rfl]
    by_cases hk : k = f
    · rw [if_pos hk]
      by_cases h : g = k
      · have hb : (g == k) = true := beq_iff_eq.mpr h
        simp only [List.lookup, hb, if_pos (h.trans hk)]
      · have hb : (g == k) = false := beq_eq_false_iff_ne.mpr h
        simp only [List.lookup, hb, if_neg (fun e : g = f => h (e.trans hk.symm))]
    · rw [if_neg hk]
      by_cases h : g = k
      · have hb : (g == k) = true := beq_iff_eq.mpr h
        simp only [List.lookup, hb, if_neg (fun e : g = f => hk (h.symm.trans e))]
      · have hb : (g == k) = false := beq_eq_false_iff_ne.mpr h
        simp only [List.lookup, hb]
        exact ih
theorem keys_putF (f : Str) (v : V) : ∀ fs : List (Str × V), f ∈ (putF f v fs).map (·.1) ∧ ∀ g, g ∈ fs.map (·.1) → g ∈ (putF f v fs).map (·.1)
  | [] => ⟨by simp [putF], fun g h => by simp at h⟩
  | (k, x) :: r => by
    obtain ⟨i1, i2⟩ := keys_putF f v r
    rw [show putF f v ((k, x) :: r) = (if k = f then (k, v) :: r else (k, x) :: putF f v r) from rfl]
    by_cases hk : k = f
    · rw [if_pos hk]
      subst hk
      exact ⟨by simp, fun g h => by simpa using h⟩
    · rw [if_neg hk]
      refine ⟨?_, fun g h => ?_⟩
      · rw [List.map_cons]
        exact List.mem_cons_of_mem _ i1
      · rw [List.map_cons] at h ⊢
        rcases List.mem_cons.mp h with e | e
        · exact List.mem_cons.mpr (.inl e)
        · exact List.mem_cons_of_mem _ (i2 g e)
theorem length_putF (f : Str) (v : V) : ∀ fs : List (Str × V), (putF f v fs).length ≤ fs.length + 1
  | [] => by simp [putF]
  | (k, x) :: r => by
    have ih := length_putF f v r
    rw [show putF f v ((k, x) :: r) = (if k = f then (k, v) :: r else (k, x) :: putF f v r) from rfl]
    by_cases hk : k = f
    · rw [if_pos hk, List.length_cons, List.length_cons]; omega
    · rw [if_neg hk, List.length_cons, List.length_cons]; omega

theorem RelO.some_of {v : V} {o : Option Value} (r : RelO (some v) o) : ∃ u, o = some u ∧ RelV v u := by
  cases o with
  | none => exact (show False from r).elim
  | some u => exact ⟨u, rfl, r⟩
theorem RelO.none_of {o : Option Value} (r : RelO none o) : o = none := by
  cases o with
  | none => rfl
  | some u => exact (show False from r).elim
theorem handed_of {v : V} {u : Value} (r : RelV v u) : PySem.W.handedIn u = true := by
  cases v with
  | non => cases (show u = Value.none from r); rfl
  | bl b => cases (show u = Value.bool b from r); rfl
  | int i => obtain ⟨t, e⟩ := (show ∃ t, u = Value.int i t from r); cases e; rfl
  | str x => obtain ⟨t, e⟩ := (show ∃ t, u = Value.str x t from r); cases e; rfl
  | byt b => obtain ⟨t, e⟩ := (show ∃ t, u = Value.bytes b t from r); cases e; rfl
  | flt b => obtain ⟨t, e⟩ := (show ∃ t, u = Value.float b t from r); cases e; rfl
  | ref a => cases (show u = Value.ref a from r); rfl
  | ty n => cases (show u = Value.type n from r); rfl

section
variable {P : Program} {w : World} {H H' : Hp} {h h' : Heap} {a C dx : Addr} {fs fs' : List (Str × V)}
theorem ins_get (hok : HOk P w H h) (e : H a = some (.ins C dx fs)) : ∃ mA, ObjM h a dx C mA ∧ (∀ f, RelO (fs.lookup f) (mA f)) ∧ PySem.Within mA (fs.map (·.1)) ∧ fs.length ≤ 1000 ∧ H dx = some (.own a) := by
  obtain ⟨d, z, ne, ob, mA, n, r, q⟩ := (show ObjOk P w H h a (.ins C dx fs) from hok a _ e)
  exact ⟨mA, ⟨ob, n, ne⟩, r, q, z, d⟩
end

/-! ### what of the text a class must have -/
structure Cls (K : PySem.W.Frag) (C : Addr) : Prop where
  pg : PySem.W.plainGet K C Str.empty = true
  hd : PySem.W.hasDictIn K C = true
  po : PySem.W.plainOver K C = true
  sa : PySem.W.findIn K (.ref C) "__setattr__" = some (some (.builtin "object.__setattr__"))
theorem Cls.get {K : PySem.W.Frag} {C : Addr} (c : Cls K C) (f : Str) : PySem.W.plainGet K C f = true := c.pg
/-- no class of it has the name -/
def NoAttr (K : PySem.W.Frag) (C : Addr) (f : Str) : Prop := PySem.W.findIn K (.ref C) f = some none
theorem NoAttr.taker {K : PySem.W.Frag} {C : Addr} {f : Str} (n : NoAttr K C f) : PySem.W.takerIn K C f = some none := by
  unfold PySem.W.takerIn
  rw [show PySem.W.findIn K (.ref C) f = some none from n]
  rfl
/-- a constant of the class -/
structure Con (K : PySem.W.Frag) (C : Addr) (f : Str) (v : V) (u : Value) : Prop where
  at_ : PySem.W.findIn K (.ref C) f = some (some u)
  rel : RelV v u
  get : PySem.W.specialIn K u "__get__" = some none
  cp : PySem.W.copiedNames.contains f = false
/-- a method: a plain def of the class or of one above it -/
structure Meth (K : PySem.W.Frag) (C : Addr) (m : Str) (f : Addr) : Prop where
  at_ : PySem.W.findIn K (.ref C) m = some (some (.ref f))
  fn : PySem.W.isFn K (.ref f) = true
  kp : PySem.W.keepIn K (.ref f) = true

section
variable {X : Cx} {pins : List (Addr × Obj)} {σ : St} {H : Hp} {s : Shared} {a C dx : Addr} {fs : List (Str × V)} {f : Str} {v : V} {A : Around} {E : Value → Shared → Prop}

theorem getattr_ok {b : Bool} {Q : Value → Shared → Prop} (I : Inv X pins σ H s) (e : H a = some (.ins C dx fs)) (c : Cls X.K C) (n : NoAttr X.K C f) (l : fs.lookup f = some v)
    (h : ∀ u s', Inv X pins σ H s' → RelV v u → Q u s') : wpAny (model X.prog X.w) A (getAttr (.ref a) f b) Q E s := by
  obtain ⟨mA, O, r, _, _, _⟩ := ins_get I.hok e
  obtain ⟨u, hu, ru⟩ := RelO.some_of (v := v) (o := mA f) (by rw [← l]; exact r f)
  exact get_map I.kIn O (c.get f) c.hd n hu (handed_of ru) (h u _ (I.tok _) ru)

theorem getmeth_ok {m : Str} {g : Addr} {pl : Sem Bool} {Q : Value × List Value → Shared → Prop} (I : Inv X pins σ H s) (e : H a = some (.ins C dx fs)) (c : Cls X.K C) (k : Meth X.K C m g) (l : fs.lookup m = none)
    (h : Q (.ref g, [.ref a]) s) : wpAny (model X.prog X.w) A (getMethod (.ref a) m pl) Q E s := by
  obtain ⟨mA, O, r, _, _, _⟩ := ins_get I.hok e
  have hn : mA m = none := RelO.none_of (by rw [← l]; exact r m)
  exact get_meth I.kIn O (c.get m) k.at_ k.fn hn h

theorem setattr_ok {y : V} {u : Value} {Q : Unit → Shared → Prop} (I : Inv X pins σ H s) (e : H a = some (.ins C dx fs)) (c : Cls X.K C) (n : NoAttr X.K C f) (hl : fs.length < 1000) (ry : RelV y u)
    (h : ∀ s', Inv X pins σ (upd H a (.ins C dx (putF f y fs))) s' → Q () s') : wpAny (model X.prog X.w) A (setAttr (.ref a) f u) Q E s := by
  obtain ⟨mA, O, r, wi, _, ho⟩ := ins_get I.hok e
  have hz : (fs.map (·.1)).length ≤ sizeLine := by rw [List.length_map, sizeLine_eq]; omega
  refine set_map I.kIn O c.sa c.po n.taker c.hd wi hz fun h' O' sb => h _ ?_
  have hd : ∃ o, h'.get? dx = some o := let ⟨o, _, _, e', _⟩ := O'.ns; ⟨o, e'⟩
  refine I.write (x := a) (e := dx) (by rw [e]; exact True.intro) (.inr ho) (fun b q hb z => (sb.2 b hb).trans z) hd ?_
  refine ⟨by rw [upd_ne O.ne]; exact ho, ?_, O.ne, O'.obj, _, O'.ns, fun g => ?_, fun g hg => ?_⟩
  · have := length_putF f y fs; omega
  · show RelO ((putF f y fs).lookup g) (if g = f then some u else mA g)
    rw [lookup_putF]
    by_cases q : g = f
    · rw [if_pos q, if_pos q]; exact ry
    · rw [if_neg q, if_neg q]; exact r g
  · by_cases q : g = f
    · rw [q]; exact (keys_putF f y fs).1
    · refine (keys_putF f y fs).2 g (wi g fun z => hg ?_)
      show (if g = f then some u else mA g) = none
      rw [if_neg q]; exact z

/-- a new instance, tracked, without attributes -/
theorem Inv.made (I : Inv X pins σ H s) : Inv X pins σ (upd (upd H s.heap.objs.size (.own (s.heap.objs.size + 1))) (s.heap.objs.size + 1) (.ins C s.heap.objs.size []))
    { s with heap := (s.heap.push PySem.W.emptyDict).push (PySem.W.instObj C s.heap.objs.size) } := by
  have e1 : (s.heap.push PySem.W.emptyDict).get? s.heap.objs.size = some PySem.W.emptyDict := Heap.get?_push_size s.heap rfl
  have e2 : ((s.heap.push PySem.W.emptyDict).push (PySem.W.instObj C s.heap.objs.size)).get? (s.heap.objs.size + 1) = some (PySem.W.instObj C s.heap.objs.size) := by
    have := Heap.get?_push_size (s.heap.push PySem.W.emptyDict) (o := PySem.W.instObj C s.heap.objs.size) rfl
    rwa [Heap.size_push] at this
  have e3 : (s.heap.push PySem.W.emptyDict).Ns s.heap.objs.size (fun _ => none) := ⟨PySem.W.emptyDict, #[], _, e1, rfl, (fun e he => absurd he (by simp)), fun _ => rfl⟩
  have I1 := I.laid (a := s.heap.objs.size) (o := .own (s.heap.objs.size + 1)) (h' := s.heap.push PySem.W.emptyDict) (t' := s.toks) (fun b u q => Heap.get?_push_of_some _ q) (Nat.le_refl _) ⟨_, e1⟩
  refine I1.laid (a := s.heap.objs.size + 1) (o := .ins C s.heap.objs.size []) (t' := s.toks) (fun b u q => Heap.get?_push_of_some _ q) (Nat.le_of_eq (Heap.size_push _ _)) ?_
  have ne : s.heap.objs.size ≠ s.heap.objs.size + 1 := Nat.ne_of_lt (Nat.lt_succ_self _)
  refine ⟨by rw [upd_ne ne, upd_same], Nat.zero_le _, ne, e2, fun _ => none, (Heap.Ns1.of_empty e3).at fun o q => Heap.get?_push_of_some _ q, fun _ => True.intro, fun y hy => absurd rfl hy⟩

/-- e.f where nothing but the object is asked: through attributeBase (super) and the last hold -/
theorem attr_of {prog : Program} {w : World} {env : Env} {e : Expr} {f : Str} {pos : Pos} {s : Shared} {Q : Value → Shared → Prop} (hb : attributeBase e f env (eval e env) = eval e env)
    (h : wpAny (model prog w) A (eval e env) (fun o s₁ => wpAny (model prog w) A (getAttr o f true) Q E s₁) E s) : wpAny (model prog w) A (eval (.Attribute e f pos) env) Q E s :=
  Attribute_any_ h (by rw [arm_eval_Attribute, hb])
end

/-! ### readings and rules -/
/-- e.f, an attribute of the instance -/
def tFld (K : PySem.W.Frag) (ta : TE) (f : Str) : TE := fun σ H Q => ta σ H fun x H1 => ∃ a C dx fs v, x = .ref a ∧ H1 a = some (.ins C dx fs) ∧ Cls K C ∧ NoAttr K C f ∧ fs.lookup f = some v ∧ Q v H1
/-- e.f = value -/
def sFld (K : PySem.W.Frag) (ta tv : TE) (f : Str) : TS := fun D σ H => tv σ H fun y H1 => ta σ H1 fun x H2 => ∃ a C dx fs, x = .ref a ∧ H2 a = some (.ins C dx fs) ∧ Cls K C ∧ NoAttr K C f ∧ fs.length < 1000 ∧
  D.nx σ (upd H2 a (.ins C dx (putF f y fs)))
/-- an augmented operator on two values -/
def InOp (X : Cx) (op : Operator) (rd : V → V → Hp → VK → Prop) : Prop :=
  ∀ (pins : List (Addr × Obj)) (s : Shared) (σ : St) (H : Hp) (x y : V) (u v : Value) (Q : VK), Inv X pins σ H s → RelV x u → RelV y v → rd x y H Q → wpAny (model X.prog X.w) X.A (inplaceOp op u v) (EP X pins σ Q) X.xe s
/-- e.f op= value -/
def sFldAug (K : PySem.W.Frag) (ta tv : TE) (rd : V → V → Hp → VK → Prop) (f : Str) : TS := fun D σ H => ta σ H fun x H1 => ∃ a C dx fs v, x = .ref a ∧ H1 a = some (.ins C dx fs) ∧ Cls K C ∧ NoAttr K C f ∧ fs.lookup f = some v ∧
  tv σ H1 fun y H2 => rd v y H2 fun z H3 => ∃ dx' fs', H3 a = some (.ins C dx' fs') ∧ fs'.length < 1000 ∧ D.nx σ (upd H3 a (.ins C dx' (putF f z fs')))

section
variable {X : Cx} {o e value : Expr} {f : Str} {pos pos' tpos : Pos} {ta tv : TE}
theorem pe_fld (he : PE X e ta) (hb : attributeBase e f X.env (eval e X.env) = eval e X.env) : PE X (.Attribute e f pos) (tFld X.K ta f) := by
  intro pins s σ H Q I h
  refine attr_of hb (thn (he pins s σ H _ I h) fun u s1 hq9 => ?_)
  obtain ⟨x, H1, I1, rx, a, C, dx, fs, v, ex, ea, c, n, l, q⟩ := hq9
  subst ex
  obtain rfl : u = Value.ref a := rx
  exact getattr_ok I1 ea c n l fun u' s2 I2 ru => ⟨v, H1, I2, ru, q⟩
theorem ps_fld (ha : PE X o ta) (hv : PE X value tv) (hs : swapsWith value (some (.Attribute o f pos')) pos.line X.env = pure false) : PS X (.Assign [.Attribute o f pos'] value pos) (sFld X.K ta tv f) := by
  intro pins s σ H D I h
  refine plainObj_wpAny_Assign_Attribute (thn (hv pins s σ H _ I h) fun u s1 ⟨y, H1, I1, ry, q⟩ => thn (ha pins s1 σ H1 _ I1 q) fun ov s2 ⟨x, H2, I2, rx, a, C, dx, fs, ex, ea, c, n, l, q2⟩ => ?_) hs
  subst ex
  obtain rfl : ov = Value.ref a := rx
  exact setattr_ok I2 ea c n l ry fun s3 I3 => ⟨σ, _, I3, q2⟩
theorem ps_fldaug {op : Operator} {rd : V → V → Hp → VK → Prop} (ha : PE X o ta) (hv : PE X value tv) (hop : InOp X op rd) : PS X (.AugAssign (.Attribute o f tpos) op value pos) (sFldAug X.K ta tv rd f) := by
  intro pins s σ H D I h
  refine wpAny_AugAssign_AttributeAny (thn (ha pins s σ H _ I h) fun ov s1 hq9 => ?_)
  obtain ⟨x, H1, I1, rx, a, C, dx, fs, v, ex, ea, c, n, l, q⟩ := hq9
  subst ex
  obtain rfl : ov = Value.ref a := rx
  refine getattr_ok I1 ea c n l fun u s2 I2 ru => thn (hv pins s2 σ H1 _ I2 q) fun w3 s3 ⟨y, H2, I3, ry, q3⟩ => thn (hop pins s3 σ H2 v y u w3 _ I3 ru ry q3) fun w4 s4 hq9 => ?_
  obtain ⟨z, H3, I4, rz, dx', fs', ea', l', q4⟩ := hq9
  exact setattr_ok I4 ea' c n l' rz fun s5 I5 => ⟨σ, _, I5, q4⟩
def rAdd : V → V → Hp → VK → Prop := fun x y H Q => ∃ i j, x = .int i ∧ y = .int j ∧ Q (.int (i + j)) H
theorem in_add : InOp X .Add rAdd := by
  rintro pins s σ H x y u v Q I rx ry ⟨i, j, rfl, rfl, q⟩
  obtain ⟨t, rfl⟩ := (show ∃ t, u = Value.int i t from rx)
  obtain ⟨t', rfl⟩ := (show ∃ t', v = Value.int j t' from ry)
  exact PyProof.Rows.iadd_int ⟨.int (i + j), H, I.tok _, ⟨_, rfl⟩, q⟩
/-- what is between an instance and its method: the tree of a method call -/
theorem methcall_of {pl : Sem Bool} {m : Str} {apos : Pos} {args : List Expr} {pins : List (Addr × Obj)} {s : Shared} {σ : St} {H : Hp} {Q : Value → Shared → Prop} {te : TE} (he : PE X e te) (I : Inv X pins σ H s)
    (h : te σ H fun x H1 => ∃ a C dx fs g, x = .ref a ∧ H1 a = some (.ins C dx fs) ∧ Cls X.K C ∧ Meth X.K C m g ∧ fs.lookup m = none ∧
      ∀ s1, Inv X pins σ H1 s1 → wpAny (model X.prog X.w) X.A (callWith pos (.ref g) [.ref a] (backTo pos (starEach args X.env)) (backToKw pos (keywordEach [] X.env))) Q X.xe s1)
    (ht : eval (.Call (.Attribute e m apos) args [] pos) X.env = (do
      let ov ← eval e X.env
      standAt apos.atName
      let (f, first) ← holding [ov] (getMethod ov m pl)
      callWith pos f first (backTo pos (starEach args X.env)) (backToKw pos (keywordEach [] X.env)))) :
    wpAny (model X.prog X.w) X.A (eval (.Call (.Attribute e m apos) args [] pos) X.env) Q X.xe s := by
  refine PySem.W.methodCall_KW (pl := pl) (thn (he pins s σ H _ I h) fun u s1 ⟨x, H1, I1, rx, a, C, dx, fs, g, ex, ea, c, k, l, q⟩ => ?_) ht
  subst ex
  obtain rfl : u = Value.ref a := rx
  exact getmeth_ok I1 ea c k l (q s1 I1)
end

/-! ### isinstance -/
section
variable {X : Cx} {pins : List (Addr × Obj)} {σ : St} {H : Hp} {s : Shared} {A : Around} {E : Value → Shared → Prop} {Q : Value → Shared → Prop} {c : Value} {b : Bool}
/-- the type of a value, as the fragment's deciders take it; for an instance its class -/
inductive TyOf (K : PySem.W.Frag) (H : Hp) : V → Value → Prop where
  | non : TyOf K H .non (.type "NoneType")
  | bl (x : Bool) : TyOf K H (.bl x) (.type "bool")
  | int (i : Int) : TyOf K H (.int i) (.type "int")
  | str (x : Str) : TyOf K H (.str x) (.type "str")
  | flt (x : UInt64) : TyOf K H (.flt x) (.type "float")
  | lst {a : Addr} {xs : List V} (e : H a = some (.lst xs)) : TyOf K H (.ref a) (.type "list")
  | frz {a : Addr} {o : Obj} {xs : List V} (e : H a = some (.frz o (.lst xs))) : TyOf K H (.ref a) (.type "list")
  | tup {a : Addr} {xs : List V} (e : H a = some (.tup xs)) : TyOf K H (.ref a) (.type "tuple")
  | dK {a : Addr} {kvs : List (Key × V)} (e : H a = some (.dK kvs)) : TyOf K H (.ref a) (.type "dict")
  | dT {a : Addr} {kvs : List (List Key × V)} (e : H a = some (.dT kvs)) : TyOf K H (.ref a) (.type "dict")
  | ins {a C dx : Addr} {fs : List (Str × V)} (e : H a = some (.ins C dx fs)) (cl : Cls K C) (ha : PySem.W.findIn K (.ref C) "__class__" = some (some (.builtin "object.__class__")))
      (hn : PySem.W.specialIn K (.builtin "object.__class__") "__get__" = some (some (.builtin "getset_descriptor.__get__"))) (htk : PySem.W.takesIn K (.builtin "object.__class__") = some true)
      (hm : PySem.W.mroIn K C (.type "object") = some true) : TyOf K H (.ref a) (.ref C)
end
end L2

namespace L2
open PySem PySem.Spec PyProof.Rows

/-! ### room -/
structure Room (k : Nat) (A : Around) : Prop where
  hd : A.handled = none
  dp : A.depth + 3 * k + 5 < recursionLimit
  un : A.units + 16 * k + 200 < cLine
theorem Room.mono {j k : Nat} {A : Around} (r : Room k A) (h : j ≤ k) : Room j A := ⟨r.hd, by have := r.dp; omega, by have := r.un; omega⟩
theorem Room.deeper {k : Nat} {A : Around} (r : Room (k + 1) A) (env : Env) : Room k (A.deeper env) :=
  ⟨r.hd, by have := r.dp; show A.depth + 1 + 3 * k + 5 < _; omega, by have := r.un; show A.units + 3 + 16 * k + 200 < _; omega⟩
theorem make_depth {A : Around} {C : Addr} {us : List Value} {kw : List (Str × Value)} : (A.under (.builtin "type.__call__" ⟨.ref C :: us, kw⟩)).depth = A.depth + 1 := by
  first | rfl | simp [Around.under, Code.weight, Code.isCreation, Code.isGuard, Code.isCaller, Code.frames, Code.isFrame, guardIds]
theorem make_units {A : Around} {C : Addr} {us : List Value} {kw : List (Str × Value)} : (A.under (.builtin "type.__call__" ⟨.ref C :: us, kw⟩)).units = A.units + 1 := by
  first | rfl | simp [Around.under, Code.cUnits, Code.frames, Code.isFrame]
theorem Room.make {k : Nat} {A : Around} (r : Room (k + 1) A) (C : Addr) (us : List Value) (kw : List (Str × Value)) : Room k (A.under (.builtin "type.__call__" ⟨.ref C :: us, kw⟩)) :=
  ⟨r.hd, by have := r.dp; rw [make_depth]; omega, by have := r.un; rw [make_units]; omega⟩
theorem Room.depth {k : Nat} {A : Around} (r : Room k A) : A.depth < recursionLimit := by have := r.dp; omega
/-! ### argument lists and displays -/
def tNil : TA := fun _ H Q => Q [] H
def tCons (ta : TE) (tr : TA) : TA := fun σ H Q => ta σ H fun x H1 => tr σ H1 fun xs H2 => Q (x :: xs) H2
section
variable {X : Cx} {e : Expr} {es : List Expr} {te : TE} {t : TA} {pos : Pos}
theorem pa_nil : PA X [] tNil := fun _ _ _ _ H Q I h => Calls.spliced_nil ⟨[], H, I, .nil, h⟩
theorem pa_cons (ha : PE X e te) (hr : PA X es t) (hs : starEach (e :: es) X.env = (false, eval e X.env) :: starEach es X.env := by rfl) : PA X (e :: es) (tCons te t) := by
  intro pos pins s σ H Q I h
  rw [hs]
  show wpAny _ _ (spliced ((false, eval e X.env) :: backTo pos (starEach es X.env))) _ _ s
  refine Calls.spliced_cons (thn (ha pins s σ H _ I h) fun u s1 hq9 => ?_)
  obtain ⟨x, H1, I1, r1, q1⟩ := hq9
  exact thn (hr pos pins s1 σ H1 _ I1 q1) fun us s2 ⟨xs, H2, I2, r2, q2⟩ => ⟨x :: xs, H2, I2, .cons r1 r2, q2⟩

/-- a tuple, a list of written items -/
def tTup (t : TA) : TE := fun σ H Q => t σ H fun xs H1 => xs.length ≤ sizeLine ∧ ∀ p, H1 p = none → Q (.ref p) (upd H1 p (.tup xs))
def tLst (t : TA) : TE := fun σ H Q => t σ H fun xs H1 => xs.length ≤ sizeLine ∧ ∀ p, H1 p = none → Q (.ref p) (upd H1 p (.lst xs))
theorem pe_tup {x1} (h : PA X es t) : PE X (.Tuple es x1 pos) (tTup t) := by
  intro pins s σ H Q I hq
  refine wpAny_Tuple_spliced (thn (h pos pins s σ H _ I hq) fun us s1 ⟨xs, H1, I1, r, z, q⟩ => ⟨by rw [← r.length]; exact z, ?_⟩)
  have hf : H1 s1.heap.objs.size = none := I1.hok.fresh (Nat.le_refl _)
  refine ⟨.ref s1.heap.objs.size, upd H1 s1.heap.objs.size (.tup xs), I1.laid (t' := s1.toks) (fun b u e => Heap.get?_push_of_some _ e) (Nat.le_refl _) ?_, rfl, q _ hf⟩
  exact ⟨z, us, r, ⟨_, Heap.get?_push_size _ rfl, rfl, _, rfl⟩⟩
theorem pe_lst (h : PA X es t) : PE X (.List es pos) (tLst t) := by
  intro pins s σ H Q I hq
  refine wpAny_List_spliced (thn (h pos pins s σ H _ I hq) fun us s1 ⟨xs, H1, I1, r, z, q⟩ => ⟨by rw [← r.length]; exact z, ?_⟩)
  have hf : H1 s1.heap.objs.size = none := I1.hok.fresh (Nat.le_refl _)
  refine ⟨.ref s1.heap.objs.size, upd H1 s1.heap.objs.size (.lst xs), I1.laid (t' := s1.toks) (fun b u e => Heap.get?_push_of_some _ e) (Nat.le_refl _) ?_, rfl, q _ hf⟩
  exact ⟨z, us, 0, r, Heap.get?_push_size _ rfl⟩
end

/-! ### what a def promises -/
/-- a def's promise: the bound arguments in the parameters' order, the heap, the wanted end, the wanted exception -/
abbrev Sp := List V → Hp → VK → XK → Prop
/-- how an exception lies behind a call (file 08 gives it): the callers' frames, abstract heap and state ahead of the call, the wish, the exception, the state -/
abbrev CXT := List Env → Hp → Shared → XK → Value → Shared → Prop

/-- the state at a call -/
structure Env0 (P : Program) (w : World) (K : PySem.W.Frag) (mg : Str → Option Value) (base : Heap) (A : Around) (outer : List Env) (s : Shared) (H : Hp) : Prop where
  frames : A.frames = some outer
  mod : Mod K mg base
  bs : ∀ b o, base.get? b = some o → s.heap.get? b = some o ∧ H b = none
  bsz : base.objs.size ≤ s.heap.objs.size
  funs : s.heap.FunFrames base outer
  frf : ∀ b ∈ frs outer, H b = none
  hok : HOk P w H s.heap
  bare : AllBare s.gens
/-- a call's end -/
def CE (outer : List Env) (P : Program) (w : World) (H : Hp) (s : Shared) (Q : VK) (u : Value) (s' : Shared) : Prop :=
  ∃ v H', s'.os = s.os ∧ AllBare s'.gens ∧ Un (frs outer) [] H H' s.heap s'.heap ∧ HOk P w H' s'.heap ∧ RelV v u ∧ Q v H'
def CR (CX : CXT) (outer : List Env) (P : Program) (w : World) (H : Hp) (s : Shared) (Q : VK) (E : XK) (r : Result) (s' : Shared) : Prop :=
  match r with
  | .ok (.ret u) => CE outer P w H s Q u s'
  | .ok _ => False
  | .error e => CX outer H s E e s'
structure FnOk (P : Program) (w : World) (K : PySem.W.Frag) (mg : Str → Option Value) (base : Heap) (CX : CXT) (k : Nat) (f : Addr) (fd : FuncData) (ps : List Str) (sp : Sp) : Prop where
  len : ∀ vs H Q E, sp vs H Q E → vs.length = ps.length
  run : ∀ (A : Around) (outer : List Env) (s : Shared) (H : Hp) (args : Args) (us : List Value) (vs : List V) (Q : VK) (E : XK), Room k A → Env0 P w K mg base A outer s H → BindsTo s fd args (ps.zip us) → Vals vs us → sp vs H Q E →
    codeAny (model P w) A (.call (.ref f) args) (CR CX outer P w H s Q E) s
theorem Env0.make {P : Program} {w : World} {K : PySem.W.Frag} {mg : Str → Option Value} {base : Heap} {A : Around} {outer : List Env} {s : Shared} {H : Hp} (e : Env0 P w K mg base A outer s H) (C : Addr) (us : List Value) (kw : List (Str × Value)) :
    Env0 P w K mg base (A.under (.builtin "type.__call__" ⟨.ref C :: us, kw⟩)) outer s H := ⟨by first | exact e.frames | (simpa [Around.under, Code.envs, Code.isFrame, pushEnvs] using e.frames), e.mod, e.bs, e.bsz, e.funs, e.frf, e.hok, e.bare⟩
section
variable {X : Cx} {pins : List (Addr × Obj)} {σ : St} {H : Hp} {s s' : Shared}
/-- from a body: what a callee wants -/
theorem Inv.env0 (I : Inv X pins σ H s) : Env0 X.prog X.w X.K X.mg X.base X.A X.stack s H :=
  ⟨I.ok.frames, I.ok.mod, I.bs, Nat.le_trans I.ok.bsz I.sz, I.stack, I.stkFree, I.hok, I.bare⟩
/-- behind a call -/
theorem Inv.after {Q : VK} {u : Value} (I : Inv X pins σ H s) (h : CE X.stack X.prog X.w H s Q u s') : EP X pins σ Q u s' := by
  obtain ⟨v, H', os, bare, un, hok, r, q⟩ := h
  obtain ⟨hh, g, d, t, os'⟩ := s'
  obtain rfl : os' = s.os := os
  exact ⟨v, H', I.call (h' := hh) (g' := g) (d' := d) (t' := t) (ch := []) un hok bare (fun b z => absurd z (by simp)), r, q⟩
end

/-! ### calls -/
/-- f(..): the written arguments, then the defaults dvs; E: what is wanted of an exception -/
def tCall (sp : Sp) (dvs : List V) (E : XK) (t : TA) : TE := fun σ H Q => t σ H fun vs H1 => sp (vs ++ dvs) H1 Q E
/-- o.m(..) of an instance of the class at C -/
def tMeth (C : Addr) (m : Str) (sp : Sp) (dvs : List V) (E : XK) (ta : TE) (t : TA) : TE := fun σ H Q => ta σ H fun x H1 => ∃ a dx fs, x = .ref a ∧ H1 a = some (.ins C dx fs) ∧ fs.lookup m = none ∧
  t σ H1 fun vs H2 => sp (x :: (vs ++ dvs)) H2 Q E
/-- C(..): a new instance and its dict, then __init__ -/
def tMake (C : Addr) (sp : Sp) (dvs : List V) (E : XK) (t : TA) : TE := fun σ H Q => t σ H fun vs H1 => ∀ x dx, H1 x = none → H1 dx = none → dx ≠ x →
  sp (.ref x :: (vs ++ dvs)) (upd (upd H1 dx (.own x)) x (.ins C dx [])) (fun v H2 => v = .non ∧ Q (.ref x) H2) E

/-- how the parameters are bound: us the positional arguments, kw the keywords' values by name, ds the defaults that fill up -/
def Binds (K : PySem.W.Frag) (fd : FuncData) (ps : List Str) (ds : List Value) : Prop :=
  ∀ (s : Shared) (us : List Value), K.In s.heap → (us ++ ds).length = ps.length → BindsTo s fd ⟨us, []⟩ (ps.zip (us ++ ds))
/-- every parameter is given -/
theorem Binds.all {K : PySem.W.Frag} {fd : FuncData} {ps : List Str} (h : ∀ us : List Value, us.length = ps.length → bindArgs fd ⟨us, []⟩ = pure (ps.zip us)) : Binds K fd ps [] := fun s us _ hl => by
  rw [List.append_nil] at hl ⊢
  exact .of_eq (h us hl)

/-- an exception of a callee reaches what this body wants of exceptions -/
def Passes (CX : CXT) (X : Cx) (E : XK) : Prop := ∀ (pins : List (Addr × Obj)) (σ : St) (H : Hp) (s : Shared) (e : Value) (s' : Shared), Inv X pins σ H s → CX X.stack H s E e s' → X.xe e s'

section
variable {X : Cx} {CX : CXT} {k : Nat} {f C : Addr} {fd : FuncData} {ps : List Str} {sp : Sp} {dvs : List V} {ds : List Value} {E : XK} {x m : Str} {p pos apos : Pos} {e o : Expr} {es : List Expr} {ta : TE} {t : TA}

/-- the callee runs -/
theorem run_fn {pins : List (Addr × Obj)} {σ : St} {H : Hp} {s : Shared} {Q : VK} {us : List Value} {vs : List V} (F : FnOk X.prog X.w X.K X.mg X.base CX k f fd ps sp) (hr : Room k X.A) (hb : Binds X.K fd ps ds) (hd : Vals dvs ds) (hx : Passes CX X E)
    (I : Inv X pins σ H s) (r : Vals vs us) (h : sp (vs ++ dvs) H Q E) : wpAny (model X.prog X.w) X.A (call (.ref f) us) (EP X pins σ Q) X.xe s := by
  have r2 : Vals (vs ++ dvs) (us ++ ds) := r.append hd
  have hl : (us ++ ds).length = ps.length := by rw [← r2.length]; exact F.len _ _ _ _ h
  refine wpAny_call (codeAny_mono (F.run X.A X.stack s H ⟨us, []⟩ (us ++ ds) (vs ++ dvs) Q E hr I.env0 (hb s us I.kIn hl) r2 h) fun r s' hq => ?_)
  cases r with
  | error e => exact hx pins σ H s e s' I hq
  | ok fl =>
    cases fl with
    | ret u => exact I.after hq
    | next => exact False.elim hq
    | brk => exact False.elim hq
    | cont => exact False.elim hq

theorem pe_call (F : FnOk X.prog X.w X.K X.mg X.base CX k f fd ps sp) (hr : Room k X.A) (hg : Gl X x) (hm : X.mg x = some (.ref f)) (hk : PySem.W.keepIn X.K (.ref f) = true) (hb : Binds X.K fd ps ds) (hd : Vals dvs ds) (hx : Passes CX X E)
    (ha : PA X (e :: es) t) (hdb : (x == ("__debug__" : Str)) = false := by decide) (he : starEach (e :: es) X.env = (false, eval e X.env) :: starEach es X.env := by rfl) (hpl : (backTo pos (starEach es X.env)).any (·.1) = false := by rfl) :
    PE X (.Call (.Name x p) (e :: es) [] pos) (tCall sp dvs E t) := by
  intro pins s σ H Q I h
  refine wpAny_Call_Name_kw (ld_glob I hg hm ?_ hdb)
  refine PySem.W.callWith_K (h₀ := X.base) I.ok.mod.kin hk (thn (ha pos pins s σ H _ I h) fun us s1 ⟨vs, H1, I1, r, q⟩ => ⟨I1.kIn, ?_⟩) he hpl
  exact run_fn F hr hb hd hx I1 r q
/-- o.m(e, ..) -/
theorem pe_meth {pl : Sem Bool} (he : PE X o ta) (c : Cls X.K C) (hm : Meth X.K C m f) (F : FnOk X.prog X.w X.K X.mg X.base CX k f fd ps sp) (hr : Room k X.A) (hb : Binds X.K fd ps ds) (hd : Vals dvs ds) (hx : Passes CX X E) (ha : PA X (e :: es) t)
    (hst : starEach (e :: es) X.env = (false, eval e X.env) :: starEach es X.env := by rfl) (hpl : (backTo pos (starEach es X.env)).any (·.1) = false := by rfl)
    (ht : eval (.Call (.Attribute o m apos) (e :: es) [] pos) X.env = (do
      let ov ← eval o X.env
      standAt apos.atName
      let (f, first) ← holding [ov] (getMethod ov m pl)
      callWith pos f first (backTo pos (starEach (e :: es) X.env)) (backToKw pos (keywordEach [] X.env))) := by rfl) :
    PE X (.Call (.Attribute o m apos) (e :: es) [] pos) (tMeth C m sp dvs E ta t) := by
  intro pins s σ H Q I h
  refine PySem.W.methodCall_KW (pl := pl) (thn (he pins s σ H _ I h) fun u s1 ⟨x, H1, I1, rx, a, dx, fs, ex, ea, l, q⟩ => ?_) ht
  subst ex
  obtain rfl : u = Value.ref a := rx
  refine getmeth_ok I1 ea c hm l ?_
  refine PySem.W.callWith_K (first := [.ref a]) (h₀ := X.base) I.ok.mod.kin hm.kp (thn (ha pos pins s1 σ H1 _ I1 q) fun us s2 ⟨vs, H2, I2, r, q2⟩ => ⟨I2.kIn, ?_⟩) hst hpl
  exact run_fn (us := .ref a :: us) (vs := .ref a :: vs) F hr hb hd hx I2 (.cons rfl r) q2
/-- o.m() -/
theorem pe_meth0 {pl : Sem Bool} (he : PE X o ta) (c : Cls X.K C) (hm : Meth X.K C m f) (F : FnOk X.prog X.w X.K X.mg X.base CX k f fd ps sp) (hr : Room k X.A) (hb : Binds X.K fd ps ds) (hd : Vals dvs ds) (hx : Passes CX X E)
    (ht : eval (.Call (.Attribute o m apos) [] [] pos) X.env = (do
      let ov ← eval o X.env
      standAt apos.atName
      let (f, first) ← holding [ov] (getMethod ov m pl)
      callWith pos f first (backTo pos (starEach [] X.env)) (backToKw pos (keywordEach [] X.env))) := by rfl) :
    PE X (.Call (.Attribute o m apos) [] [] pos) (tMeth C m sp dvs E ta tNil) := by
  intro pins s σ H Q I h
  refine PySem.W.methodCall_KW (pl := pl) (thn (he pins s σ H _ I h) fun u s1 ⟨x, H1, I1, rx, a, dx, fs, ex, ea, l, q⟩ => ?_) ht
  subst ex
  obtain rfl : u = Value.ref a := rx
  refine getmeth_ok I1 ea c hm l ?_
  exact PySem.W.callWith_K0 (first := [.ref a]) I1.kIn hm.kp (run_fn (us := [.ref a]) (vs := [.ref a]) F hr hb hd hx I1 (.cons rfl .nil) q)

/-- what a class must have to be made -/
structure Mk (K : PySem.W.Frag) (C f : Addr) : Prop where
  makes : PySem.W.makesIn K C = true
  init : PySem.W.findIn K (.ref C) "__init__" = some (some (.ref f))
  fn : PySem.W.isFn K (.ref f) = true
  kp : PySem.W.keepIn K (.ref C) = true

theorem run_make {pins : List (Addr × Obj)} {σ : St} {H : Hp} {s : Shared} {Q : VK} {us : List Value} {vs : List V} (M : Mk X.K C f) (F : FnOk X.prog X.w X.K X.mg X.base CX k f fd ps sp) (hr : Room (k + 1) X.A) (hb : Binds X.K fd ps ds) (hd : Vals dvs ds)
    (hx : Passes CX X E) (I : Inv X pins σ H s) (r : Vals vs us)
    (h : ∀ x dx, H x = none → H dx = none → dx ≠ x → sp (.ref x :: (vs ++ dvs)) (upd (upd H dx (.own x)) x (.ins C dx [])) (fun v H2 => v = .non ∧ Q (.ref x) H2) E) :
    wpAny (model X.prog X.w) X.A (call (.ref C) us) (EP X pins σ Q) X.xe s := by
  have hq := h (s.heap.objs.size + 1) s.heap.objs.size (I.hok.fresh (Nat.le_succ _)) (I.hok.fresh (Nat.le_refl _)) (Nat.ne_of_lt (Nat.lt_succ_self _))
  have I2 := Inv.made (C := C) I
  have r2 : Vals (V.ref (s.heap.objs.size + 1) :: (vs ++ dvs)) (Value.ref (s.heap.objs.size + 1) :: (us ++ ds)) := .cons rfl (r.append hd)
  have hl : (Value.ref (s.heap.objs.size + 1) :: us ++ ds).length = ps.length := by
    have e := r2.length
    rw [F.len _ _ _ _ hq] at e
    exact e.symm
  refine wpAny_call (make_map (f := f) I.kIn M.makes M.init (beq_iff_eq.mp M.fn) (codeAny_mono (F.run _ X.stack _ _ ⟨Value.ref (s.heap.objs.size + 1) :: us, []⟩ (Value.ref (s.heap.objs.size + 1) :: (us ++ ds)) _ _ E (hr.make C us [])
    (I2.env0.make C us []) (hb _ (Value.ref (s.heap.objs.size + 1) :: us) I2.kIn hl) r2 hq) fun r s' hq' => ?_))
  cases r with
  | error e => exact hx pins σ _ _ e s' I2 hq'
  | ok fl =>
    cases fl with
    | ret u =>
      obtain ⟨v, H', I3, rv, ev, q3⟩ := I2.after hq'
      subst ev
      exact ⟨rv, ⟨V.ref (s.heap.objs.size + 1), H', I3, rfl, q3⟩⟩
    | next => exact False.elim hq'
    | brk => exact False.elim hq'
    | cont => exact False.elim hq'
theorem pe_make (M : Mk X.K C f) (F : FnOk X.prog X.w X.K X.mg X.base CX k f fd ps sp) (hr : Room (k + 1) X.A) (hg : Gl X x) (hm : X.mg x = some (.ref C)) (hb : Binds X.K fd ps ds) (hd : Vals dvs ds) (hx : Passes CX X E)
    (ha : PA X (e :: es) t) (hdb : (x == ("__debug__" : Str)) = false := by decide) (he : starEach (e :: es) X.env = (false, eval e X.env) :: starEach es X.env := by rfl) (hpl : (backTo pos (starEach es X.env)).any (·.1) = false := by rfl) :
    PE X (.Call (.Name x p) (e :: es) [] pos) (tMake C sp dvs E t) := by
  intro pins s σ H Q I h
  refine wpAny_Call_Name_kw (ld_glob I hg hm ?_ hdb)
  refine PySem.W.callWith_K (h₀ := X.base) I.ok.mod.kin M.kp (thn (ha pos pins s σ H _ I h) fun us s1 ⟨vs, H1, I1, r, q⟩ => ⟨I1.kIn, ?_⟩) he hpl
  exact run_make M F hr hb hd hx I1 r q
theorem pe_make0 (M : Mk X.K C f) (F : FnOk X.prog X.w X.K X.mg X.base CX k f fd ps sp) (hr : Room (k + 1) X.A) (hg : Gl X x) (hm : X.mg x = some (.ref C)) (hb : Binds X.K fd ps ds) (hd : Vals dvs ds) (hx : Passes CX X E)
    (hdb : (x == ("__debug__" : Str)) = false := by decide) : PE X (.Call (.Name x p) [] [] pos) (tMake C sp dvs E tNil) := by
  intro pins s σ H Q I h
  refine wpAny_Call_Name_kw (ld_glob I hg hm ?_ hdb)
  exact PySem.W.callWith_K0 I.kIn M.kp (run_make (us := []) M F hr hb hd hx I .nil h)
end

/-! ### keywords -/
section
variable {X : Cx} {CX : CXT} {k : Nat} {f C : Addr} {fd : FuncData} {ps ks : List Str} {sp : Sp} {E : XK} {x m : Str} {p pos apos kpos : Pos} {e o : Expr} {es : List Expr} {kws : List Keyword} {te ta : TE} {t tk : TA} {nm : Option Str}
/-- how a call with keywords binds: g puts the positional values us and the keywords' values ws (names ks) in the parameters' order, defaults among them -/
structure KBinds (K : PySem.W.Frag) (fd : FuncData) (ps ks : List Str) (g : List Value → List Value → List Value) (gV : List V → List V → List V) : Prop where
  to : ∀ (s : Shared) (us ws : List Value), K.In s.heap → (g us ws).length = ps.length → BindsTo s fd ⟨us, ks.zip ws⟩ (ps.zip (g us ws))
  rel : ∀ {vs : List V} {us : List Value} {zs : List V} {ws : List Value}, Vals vs us → Vals zs ws → Vals (gV vs zs) (g us ws)
variable {g : List Value → List Value → List Value} {gV : List V → List V → List V}
end

/-! ### a def's body keeps its promise -/
/-- names: the parameters first -/
structure FnScope (N P : List Str) (sc : Scope) : Prop where
  kind : sc.kind = .function
  co : sc.isCoroutine = false
  gen : sc.isGenerator = false
  nd : N.Nodup
  pre : N.take P.length = P
  par : ∀ x ∈ P, sc.names.lookup x = some .local ∨ sc.names.lookup x = some .cell
  nofree : ∀ y ∈ sc.names, y.2 ≠ .free

theorem bindL_out {kindOf : Str → Option NameKind} {x : Str} : ∀ {binds : List (Str × Value)} {m : Str → Option Value}, (∀ v, (x, v) ∉ binds) → bindL kindOf binds m x = m x
  | [], _, _ => rfl
  | (n, v) :: r, m, h => by
    unfold bindL
    rw [bindL_out fun w hw => h w (List.mem_cons_of_mem _ hw)]
    split
    · have : x ≠ n := by rintro rfl; exact h v List.mem_cons_self
      simp [this]
    · rfl
theorem bindC_out {kindOf : Str → Option NameKind} {x : Str} : ∀ {binds : List (Str × Value)} {m : Str → Option Value}, (∀ v, (x, v) ∉ binds) → bindC kindOf binds m x = m x
  | [], _, _ => rfl
  | (n, v) :: r, m, h => by
    unfold bindC
    rw [bindC_out fun w hw => h w (List.mem_cons_of_mem _ hw)]
    split
    · rfl
    · have : x ≠ n := by rintro rfl; exact h v List.mem_cons_self
      simp [this]
theorem bindL_get {kindOf : Str → Option NameKind} {x : Str} {v : Value} : ∀ {P : List Str} {vs : List Value} {i : Nat} {m : Str → Option Value}, P.Nodup → P[i]? = some x → vs[i]? = some v → kindOf x = some .local →
    bindL kindOf (P.zip vs) m x = some v
  | [], _, _, _, _, h, _, _ => by simp at h
  | _ :: _, [], _, _, _, _, h, _ => by simp at h
  | p :: P, w :: vs, 0, m, nd, h1, h2, hk => by
    simp at h1 h2; subst h1; subst h2
    show bindL kindOf ((p, w) :: P.zip vs) m p = _
    unfold bindL
    rw [bindL_out fun v hv => (List.nodup_cons.mp nd).1 (List.of_mem_zip hv).1, if_pos hk]
    simp
  | p :: P, w :: vs, i + 1, m, nd, h1, h2, hk => by
    show bindL kindOf ((p, w) :: P.zip vs) m x = _
    unfold bindL
    exact bindL_get (i := i) (List.nodup_cons.mp nd).2 (by simpa using h1) (by simpa using h2) hk
theorem bindC_get {kindOf : Str → Option NameKind} {x : Str} {v : Value} : ∀ {P : List Str} {vs : List Value} {i : Nat} {m : Str → Option Value}, P.Nodup → P[i]? = some x → vs[i]? = some v → kindOf x ≠ some .local →
    bindC kindOf (P.zip vs) m x = some v
  | [], _, _, _, _, h, _, _ => by simp at h
  | _ :: _, [], _, _, _, _, h, _ => by simp at h
  | p :: P, w :: vs, 0, m, nd, h1, h2, hk => by
    simp at h1 h2; subst h1; subst h2
    show bindC kindOf ((p, w) :: P.zip vs) m p = _
    unfold bindC
    rw [bindC_out fun v hv => (List.nodup_cons.mp nd).1 (List.of_mem_zip hv).1, if_neg hk]
    simp
  | p :: P, w :: vs, i + 1, m, nd, h1, h2, hk => by
    show bindC kindOf ((p, w) :: P.zip vs) m x = _
    unfold bindC
    exact bindC_get (i := i) (List.nodup_cons.mp nd).2 (by simpa using h1) (by simpa using h2) hk

/-- the names' values at the entry -/
def start (N : List Str) (vs : List V) : St := vs.map some ++ List.replicate (N.length - vs.length) none

/-- the context of a def's body, at its entry; an exception leaves the frame, then lies as CX says -/
def cxOf (CX : CXT) (P : Program) (w : World) (K : PySem.W.Frag) (mg : Str → Option Value) (base : Heap) (N : List Str) (qual : Str) (scope : Scope) (f : Addr) (cd : Value) (A : Around) (outer : List Env) (s : Shared) (H : Hp) (E : XK) : Cx where
  prog := P
  w := w
  K := K
  mg := mg
  base := base
  A := A.deeper (envOfC qual scope s.heap.objs.size f cd)
  N := N
  s_0 := s
  H_0 := H
  env := envOfC qual scope s.heap.objs.size f cd
  outer := outer
  stack := envOfC qual scope s.heap.objs.size f cd :: outer
  ex := []
  calm := true
  fn := fun _ => true
  pn := []
  xe := fun e s' => wpAny (model P w) (A.deeper (envOfC qual scope s.heap.objs.size f cd)) (leaving (envOfC qual scope s.heap.objs.size f cd) e) (fun _ s'' => CX outer H s E e s'') (fun e' s'' => CX outer H s E e' s'') s'

theorem cell_has {sc : Scope} {n : Nat} {x : Str} (h : sc.names.lookup x = some .cell) : ∃ c, (cellsFrom n sc.names []).lookup x = some c := by
  have q := PySem.W.cellsFrom_some sc.names n [] (.inl h)
  exact Option.isSome_iff_exists.mp q

theorem inv_start {CX : CXT} {P : Program} {w : World} {K : PySem.W.Frag} {mg : Str → Option Value} {base : Heap} {N ps : List Str} {qual : Str} {scope : Scope} {f : Addr} {cd : Value} {A : Around} {outer : List Env} {s s1 : Shared} {H : Hp} {E : XK} {us : List Value} {vs : List V}
    (S : FnScope N ps scope) (hd : A.handled = none) (e0 : Env0 P w K mg base A outer s H) (hl : vs.length = ps.length) (r : Vals vs us)
    (x : InCallC s s.heap.objs.size (bindL (envOfC qual scope s.heap.objs.size f cd).kindOf (ps.zip us) fun _ => none) (cellsFrom (s.heap.objs.size + 1) scope.names []) (bindC (envOfC qual scope s.heap.objs.size f cd).kindOf (ps.zip us) fun _ => none) s1) :
    Inv (cxOf CX P w K mg base N qual scope f cd A outer s H E) [] (start N vs) H s1 := by
  have hpl : ps.length ≤ N.length := by have := congrArg List.length S.pre; rw [List.length_take] at this; omega
  obtain ⟨h1, tk, rfl, hk⟩ := x.done
  have noA : ∀ b : Addr, b ∉ (cxOf CX P w K mg base N qual scope f cd A outer s H E).ex := fun b z => absurd (show b ∈ ([] : List Addr) from z) (by simp)
  refine ⟨⟨e0.mod, S.kind, rfl, rfl, Nat.le_refl _, fun y z c h1 h2 => ?_, fun y hy => ?_, fun y c _ h => ?_, fun _ => hd, Around.frames_deeper e0.frames, .inr ⟨rfl, rfl⟩, fun b z => absurd z (noA b), e0.bs, e0.bsz, fun b _ _ => noA b, fun b z => absurd z (noA b), e0.funs, e0.frf⟩,
    rfl, e0.bare, Un.kept hk, ⟨_, x.toInCall.ns, fun i y v h1 h2 h3 => ?_⟩, fun y c h => ⟨_, x.cell y c h⟩, e0.hok.fresh (Nat.le_refl _), fun y c h => ?_, fun p hp => absurd (show p ∈ ([] : List (Addr × Obj)) from hp) (by simp), e0.hok.kept hk, ?_⟩
  · exact name_of_addr x.apart (PySem.mem_of_lookup h1) (PySem.mem_of_lookup h2)
  · have hy : scope.names.lookup y = some .cell ∨ scope.names.lookup y = some .free := hy
    rcases hy with hy | hy
    · exact cell_has hy
    · exact absurd rfl (S.nofree _ (PySem.mem_of_lookup hy))
  · exact Nat.le_of_lt (x.above y c (PySem.mem_of_lookup h))
  · have hi : i < vs.length := by
      unfold start at h2
      by_cases hi : i < vs.length
      · exact hi
      · rw [List.getElem?_append_right (by simpa using hi)] at h2
        rw [List.getElem?_replicate] at h2
        split at h2 <;> cases h2
    have ha : vs[i]? = some v := by
      unfold start at h2
      rw [List.getElem?_append_left (by simpa using hi), List.getElem?_map] at h2
      cases e : vs[i]? with
      | none => rw [e] at h2; cases h2
      | some a => rw [e] at h2; cases h2; rfl
    obtain ⟨u, hu, rv⟩ := r.get ha
    have hp : ps[i]? = some y := by
      rw [← S.pre, List.getElem?_take_of_lt (by omega)]; exact h1
    have ndP : ps.Nodup := by rw [← S.pre]; exact S.nd.sublist (List.take_sublist _ _)
    refine ⟨u, rv, ?_⟩
    rcases S.par y (List.mem_of_getElem? hp) with k | k
    · exact .inl ⟨k, bindL_get ndP hp hu k⟩
    · obtain ⟨c, e⟩ := cell_has (n := s.heap.objs.size + 1) k
      refine .inr ⟨.inl k, c, e, ?_⟩
      have q := x.cell y c e
      rw [bindC_get ndP hp hu (by show scope.names.lookup y ≠ _; rw [k]; decide)] at q
      exact q
  · exact e0.hok.fresh (Nat.le_of_lt (x.above y c (PySem.mem_of_lookup h)))
  · unfold start
    show _ = N.length
    rw [List.length_append, List.length_map, List.length_replicate]
    omega

/-- THE RULE: a def (or a method) of the text, by its body. The body's reading t is chosen for each entry; it is run at the parameters' values -/
theorem fn_of {CX : CXT} {P : Program} {w : World} {K : PySem.W.Frag} {mg : Str → Option Value} {base : Heap} {k : Nat} {f : Addr} {name qual : Str} {params : Arguments} {body : List Stmt} {scope : Scope} {dV kV doc pm cdv ct oc : Value} {an od : Option Addr}
    {osl : Array (Option Value)} {N ps : List Str} {sp : Sp} (lk : K.lookup f = some ⟨oc, od, .func (PySem.W.fnOf name qual params body scope dV kV doc pm an cdv ct), osl⟩) (hcd : PySem.W.codeIn K cdv qual = true) (S : FnScope N ps scope)
    (len : ∀ vs H Q E, sp vs H Q E → vs.length = ps.length)
    (hbody : ∀ (A : Around) (outer : List Env) (s : Shared) (H : Hp) (vs : List V) (Q : VK) (E : XK), Room k (A.deeper (envOfC qual scope s.heap.objs.size f cdv)) → sp vs H Q E →
      ∃ t, PSs (cxOf CX P w K mg base N qual scope f cdv A outer s H E) body t ∧ t { nx := fun _ H' => Q .non H', rt := Q } (start N vs) H) :
    FnOk P w K mg base CX (k + 1) f (PySem.W.fnOf name qual params body scope dV kV doc pm an cdv ct) ps sp := by
  refine ⟨len, fun A outer s H args us vs Q E hr e0 hb r hsp => ?_⟩
  have hl := len _ _ _ _ hsp
  have KX : K.In s.heap := e0.mod.kin.keeps fun b o e => (e0.bs b o e).1
  have lim : s.heap.NoLimit := e0.mod.nolimit.keeps fun b o e => (e0.bs b o e).1
  have hkind : ∀ y ∈ ps.zip us, scope.names.lookup y.1 = some .local ∨ (scope.names.lookup y.1 = some .cell ∧ ((cellsFrom (s.heap.objs.size + 1) scope.names []).lookup y.1).isSome = true) := fun ⟨n, v⟩ hy => by
    rcases S.par n (List.of_mem_zip hy).1 with q | q
    · exact .inl q
    · exact .inr ⟨q, PySem.W.cellsFrom_some _ _ _ (.inl q)⟩
  refine codeAny_call_function hr.depth (KX _ _ lk) rfl S.co S.gen rfl (PySem.W.codeRec_of KX hcd) (hb _ _ _ _ ?_)
  refine wpAny_newFunctionEnv_cells S.kind hkind fun env he s1 x => ?_
  subst he
  refine ⟨lim.keeps x.toInCall.keep, codeAny_func ?_⟩
  obtain ⟨t, ht, hq⟩ := hbody A outer s H vs Q E (hr.deeper _) hsp
  have I : Inv (cxOf CX P w K mg base N qual scope f cdv A outer s H E) [] (start N vs) H s1 := inv_start S hr.hd e0 hl r x
  refine wpAny_mono (ht [] s1 (start N vs) H _ I hq) (fun fl s' hs => ?_) fun e s' hs => hs
  have fin : ∀ {σ' : St} {H' : Hp} {v : V} {u : Value}, Inv (cxOf CX P w K mg base N qual scope f cdv A outer s H E) [] σ' H' s' → RelV v u → Q v H' → CE outer P w H s Q u s' :=
    fun {σ' H' v u} J rv q => ⟨v, H', J.os, J.bare, J.base, J.hok, rv, q⟩
  cases fl with
  | ret u =>
    obtain ⟨v, σ', H', J, rv, q⟩ := hs
    exact fin J rv q
  | next =>
    obtain ⟨σ', H', J, q⟩ := hs
    exact fin (v := V.non) (u := Value.none) J rfl q
  | brk =>
    obtain ⟨_, _, _, q⟩ := hs
    exact False.elim q
  | cont =>
    obtain ⟨_, _, _, q⟩ := hs
    exact False.elim q
end L2

namespace L2
open PySem PySem.Spec PyProof.Rows
section
variable {X : Cx} {x : Str} {p pos : Pos} {e : Expr} {es : List Expr} {t : TA} {id T : String} {r : List V → Hp → VK → Prop}

def tCB (r : List V → Hp → VK → Prop) (t : TA) : TE := fun σ H Q => t σ H fun vs H1 => r vs H1 Q
/-- f(e, ..), f a built-in function -/
theorem pe_callB (hc : CallR X (.builtin id) r) (hg : Gl X x) (hm : X.mg x = none) (hv : bootBuiltins x = some (.builtin id)) (ha : PA X (e :: es) t) (hn : x ≠ "__name__" := by decide) (hdb : (x == ("__debug__" : Str)) = false := by decide)
    (he : starEach (e :: es) X.env = (false, eval e X.env) :: starEach es X.env := by rfl) (hpl : (backTo pos (starEach es X.env)).any (·.1) = false := by rfl) : PE X (.Call (.Name x p) (e :: es) [] pos) (tCB r t) := by
  intro pins s σ H Q I h
  refine wpAny_Call_Name_kw (ld_blt I hg hm hv ?_ hn hdb)
  exact PyProof.Rows.callWith_builtin1 (thn (ha pos pins s σ H _ I h) fun us s1 ⟨vs, H1, I1, r1, q1⟩ => hc pins s1 σ H1 vs us Q I1 r1 q1) he hpl
/-- T(e, ..), T a built-in type -/
theorem pe_callTy (hc : CallR X (.type T) r) (hg : Gl X x) (hm : X.mg x = none) (hv : bootBuiltins x = some (.type T)) (ha : PA X (e :: es) t) (hn : x ≠ "__name__" := by decide) (hdb : (x == ("__debug__" : Str)) = false := by decide)
    (he : starEach (e :: es) X.env = (false, eval e X.env) :: starEach es X.env := by rfl) (hpl : (backTo pos (starEach es X.env)).any (·.1) = false := by rfl) : PE X (.Call (.Name x p) (e :: es) [] pos) (tCB r t) := by
  intro pins s σ H Q I h
  refine wpAny_Call_Name_kw (ld_blt I hg hm hv ?_ hn hdb)
  exact PyProof.Rows.callWith_type1 (thn (ha pos pins s σ H _ I h) fun us s1 ⟨vs, H1, I1, r1, q1⟩ => hc pins s1 σ H1 vs us Q I1 r1 q1) he hpl
end
end L2

namespace HT
open PySem PyProof.Rows

section
open PySem.SeqAt
open PySem.AutoSeq1 (wpAny_loadPart')
open PySem.MeetsSeq PySem.MeetsSeq2 PySem.MeetsSeq3

end

section
variable {prog : Program} {w : World} {A : Around} {E : Value → Shared → Prop} {s : Shared}

/-! ### t[a:b], not the whole -/
/-- a slice's bound as a place among n (d where it is left out) -/
def sIx (n d : Nat) : Option Int → Nat
  | none => d
  | some v => if v < 0 then (v + (n : Int)).toNat else min v.toNat n
theorem sIx_nat (n d k : Nat) : sIx n d (some (k : Int)) = min k n := by
  show (if (k : Int) < 0 then ((k : Int) + (n : Int)).toNat else min (k : Int).toNat n) = min k n
  rw [if_neg (by omega), Int.toNat_natCast]
end
end HT

namespace L2
open PySem PySem.Spec PyProof.Rows

/-! ### the parts of a slice -/
abbrev TO := St → Hp → (Option Int → Hp → Prop) → Prop
/-- a slice's part (left out, or an int) -/
def PO (X : Cx) (e : Option Expr) (t : TO) : Prop :=
  ∀ (pins : List (Addr × Obj)) (s : Shared) (σ : St) (H : Hp) (Q : Option Int → Hp → Prop), Inv X pins σ H s → t σ H Q →
    wpAny (model X.prog X.w) X.A (evalPart e X.env) (fun u s' => ∃ o H', Inv X pins σ H' s' ∧ IsPart u o ∧ Q o H') X.xe s
def tPart (t : TE) : TO := fun σ H Q => t σ H fun x H1 => ∃ i, x = .int i ∧ Q (some i) H1

section
variable {X : Cx} {e : Expr} {te : TE} {lo hi : Option Expr} {tl th : TO} {pos p2 : Pos}

theorem po_some (h : PE X e te) : PO X (some e) (tPart te) := by
  intro pins s σ H Q I hw
  rw [evalPart_some]
  refine thn (h pins s σ H _ I hw) fun u s1 hq9 => ?_
  obtain ⟨x, H1, I1, r1, q1⟩ := hq9
  obtain ⟨i, rfl, q⟩ := q1
  obtain ⟨t, rfl⟩ := r1
  exact ⟨some i, H1, I1, .int i t, q⟩

/-- what a slice of a value is, by values: the slice object stands at sl -/
def SlR (X : Cx) (r : V → Option Int → Option Int → Hp → VK → Prop) : Prop :=
  ∀ (pins : List (Addr × Obj)) (s : Shared) (σ : St) (H : Hp) (x : V) (v vl vu : Value) (lo hi : Option Int) (sl : Addr) (Q : VK), Inv X pins σ H s → RelV x v → s.heap.IsSliceOf sl vl vu .none → IsPart vl lo → IsPart vu hi → r x lo hi H Q →
    ∃ T id, typeLookup (.type T) "__getitem__" = pure (some (.builtin id)) ∧ s.TypeIs v T ∧ wpAny (model X.prog X.w) X.A (getItem v (.ref sl)) (EP X pins σ Q) X.xe s
def tSl (r : V → Option Int → Option Int → Hp → VK → Prop) (te : TE) (tl th : TO) : TE := fun σ H Q => te σ H fun x H1 => tl σ H1 fun l H2 => th σ H2 fun u H3 => r x l u H3 Q
/-- a[lo:hi], any a -/
theorem pe_slice {r : V → Option Int → Option Int → Hp → VK → Prop} (hr : SlR X r) (he : PE X e te) (hl : PO X lo tl) (hu : PO X hi th) : PE X (.Subscript e (.Slice lo hi none p2) pos) (tSl r te tl th) := by
  intro pins s σ H Q I h
  refine Subscript_ (thn (he pins s σ H _ I h) fun v s1 hq9 => ?_)
  obtain ⟨x, H1, I1, r1, q1⟩ := hq9
  refine wpAny_Slice (thn (hl pins s1 σ H1 _ I1 q1) fun vl s2 ⟨l, H2, I2, pl, q2⟩ => thn (hu pins s2 σ H2 _ I2 q2) fun vu s3 hq9 => ?_)
  obtain ⟨u, H3, I3, pu, q3⟩ := hq9
  rw [evalPart_none]
  refine wpAny_pure ?_
  have I4 : Inv X pins σ H3 { s3 with heap := s3.heap.push { cls := .type "slice", data := .fields #[vl, vu, .none] } } := I3.kept (t' := s3.toks) fun b ob q => Heap.get?_push_of_some _ q
  obtain ⟨T, id, hT, ht, hg⟩ := hr pins { s3 with heap := s3.heap.push { cls := .type "slice", data := .fields #[vl, vu, .none] } } σ H3 x v vl vu l u s3.heap.objs.size Q I4 r1 (Heap.IsSliceOf.new ..) pl pu q3
  show wpAny (model X.prog X.w) X.A (subscriptTail e (.Slice lo hi none p2) v (.ref s3.heap.objs.size)) (EP X pins σ Q) X.xe { s3 with heap := s3.heap.push { cls := .type "slice", data := .fields #[vl, vu, .none] } }
  exact tail_any (ops := [.ref s3.heap.objs.size, v]) ht hT hg (by with_unfolding_all rfl)

/-- the items of xs[lo:hi] -/
def cutV (xs : List V) (lo hi : Option Int) : List V := (xs.drop (HT.sIx xs.length 0 lo)).take (HT.sIx xs.length xs.length hi - HT.sIx xs.length 0 lo)
theorem cutV_length (xs : List V) (lo hi : Option Int) : (cutV xs lo hi).length ≤ xs.length := by
  unfold cutV
  rw [List.length_take, List.length_drop]
  omega
/-! ### t < u, t + u -/
end
end L2

namespace L2
open PySem PySem.Spec PyProof.Rows

/-! ### places -/
/-- the place that an index of any sign means -/
def ixN (n : Nat) (i : Int) : Option Nat := if 0 ≤ i then (if i < n then some i.toNat else none) else if -(n : Int) ≤ i then some (i + n).toNat else none
def atI {α : Type} (xs : List α) (i : Int) : Option α := (ixN xs.length i).bind fun j => xs[j]?
theorem ixN_seq {n : Nat} {i : Int} {j : Nat} (h : ixN n i = some j) : seqIndex? i n = some j ∧ j < n ∧ -(n : Int) ≤ i ∧ i < n := by
  unfold ixN at h
  by_cases h0 : 0 ≤ i
  · rw [if_pos h0] at h
    by_cases h1 : i < n
    · rw [if_pos h1] at h
      have e : i.toNat = j := Option.some.inj h
      exact ⟨by rw [seqIndex_of h0 h1, e], by omega, by omega, h1⟩
    · rw [if_neg h1] at h; cases h
  · rw [if_neg h0] at h
    by_cases h1 : -(n : Int) ≤ i
    · rw [if_pos h1] at h
      have e : (i + n).toNat = j := Option.some.inj h
      exact ⟨by rw [seqIndex_neg (by omega) h1, e], by omega, h1, by omega⟩
    · rw [if_neg h1] at h; cases h
theorem atI_get {α : Type} {xs : List α} {i : Int} {v : α} (h : atI xs i = some v) : ∃ j, seqIndex? i xs.length = some j ∧ xs[j]? = some v ∧ j < xs.length ∧ -(xs.length : Int) ≤ i ∧ i < xs.length := by
  unfold atI at h
  cases e : ixN xs.length i with
  | none => rw [e] at h; cases h
  | some j =>
    rw [e] at h
    obtain ⟨h1, h2, h3, h4⟩ := ixN_seq e
    exact ⟨j, h1, h, h2, h3, h4⟩
theorem atI_nat {α : Type} {xs : List α} {j : Nat} {v : α} (h : xs[j]? = some v) : atI xs (j : Int) = some v := by
  have hj : j < xs.length := (List.getElem?_eq_some_iff.mp h).1
  have e : ixN xs.length (j : Int) = some j := by
    unfold ixN
    rw [if_pos (by omega), if_pos (by omega)]; simp
  unfold atI; rw [e]; exact h
/-! ### what may be subscripted -/
/-- what stands as an index of a plain subscript -/
def PlainIx (b : Expr) : Prop := ∀ o i, subscripted b false o i = operate [o, i] (getItem o i)
/-- a subscript by values -/
def IxR (X : Cx) (r : R2) : Prop :=
  ∀ (value slice : Expr) (pins : List (Addr × Obj)) (s : Shared) (σ : St) (H : Hp) (x y : V) (v u : Value) (Q : VK), Inv X pins σ H s → RelV x v → RelV y u → r x y H Q →
    subscripted slice false v u = operate [v, u] (getItem v u) → wpAny (model X.prog X.w) X.A (subscriptTail value slice v u) (EP X pins σ Q) X.xe s
/-- a call of a builtin's method by values: the receiver, the arguments -/
def MtR (X : Cx) (id : String) (r : V → List V → Hp → VK → Prop) : Prop :=
  ∀ (pins : List (Addr × Obj)) (s : Shared) (σ : St) (H : Hp) (x : V) (xs : List V) (v : Value) (us : List Value) (Q : VK), Inv X pins σ H s → RelV x v → Vals xs us → r x xs H Q →
    wpAny (model X.prog X.w) X.A (call (.builtin id) (v :: us)) (EP X pins σ Q) X.xe s
section
variable {X : Cx} {a b : Expr} {ta tb : TE} {pos : Pos}
/-- a[b] -/
theorem pe_ix {r : R2} (hr : IxR X r) (ha : PE X a ta) (hb : PE X b tb) (hs : PlainIx b) : PE X (.Subscript a b pos) (tOp r ta tb) := by
  intro pins s σ H Q I h
  exact Subscript_ (binT ha hb I h fun v u s2 x y H2 I2 rx ry q => hr a b pins s2 σ H2 x y v u Q I2 rx ry q (hs _ _))

def rIxL (K : PySem.W.Frag) : R2 := fun x y H Q => ∃ p xs i v, x = .ref p ∧ y = .int i ∧ SqL K H p xs ∧ atI xs i = some v ∧ Q v H
theorem ix_list : IxR X (rIxL X.K) := by
  intro value slice pins s σ H x y v u Q I rx ry h hs
  obtain ⟨p, xs, i, z, rfl, rfl, hq, he, q⟩ := h
  cases rx
  obtain ⟨t, rfl⟩ := ry
  obtain ⟨its, r, pl, hz⟩ := I.list hq
  obtain ⟨j, h1, h2, h3, h4, h5⟩ := atI_get he
  obtain ⟨w, ew, rw'⟩ := r.get h2
  have hl := r.length
  have hn := line63
  have fin : EP X pins σ Q w s := ⟨z, H, I, rw', q⟩
  by_cases h0 : 0 ≤ i
  · have hj : i.toNat = j := by
      rw [seqIndex_of h0 h5] at h1
      exact Option.some.inj h1
    exact item_listR pl.isList h0 (by omega) (by rw [hj]; simpa using ew) fin hs
  · have hj : (i + (its.toArray.size : Int)).toNat = j := by
      rw [seqIndex_neg (by omega) h4] at h1
      rw [List.size_toArray, ← hl]
      exact Option.some.inj h1
    exact subscriptTail_builtinR (x := w) pl.isList.typeIs slot_list_getitem.lookup
      (wpAny_getItem_list_neg (Q := fun r s' => r = w ∧ EP X pins σ Q r s') pl.isList (by omega) (by rw [List.size_toArray] <;> omega) (by omega) (by rw [hj]; simpa using ew) ⟨rfl, fin⟩) hs
/-! ### xs[i] = v, any sign -/
/-- the list's object behind a store -/
theorem mapSeq_set (its : List Value) (n j : Nat) (u : Value) : Obj.mapSeq (·.setIfInBounds j u) { cls := .type "list", data := .seq its.toArray n } = { cls := .type "list", data := .seq (its.set j u).toArray n } := by
  simp [Obj.mapSeq]
theorem Inv.lst {pins : List (Addr × Obj)} {σ : St} {H : Hp} {s : Shared} {p : Addr} {xs : List V} (I : Inv X pins σ H s) (h : H p = some (.lst xs)) :
    ∃ (its : List Value) (n : Nat), Vals xs its ∧ s.heap.get? p = some { cls := .type "list", data := .seq its.toArray n } ∧ xs.length ≤ sizeLine := by
  obtain ⟨z, its, n, r, e⟩ := I.hok p _ h
  exact ⟨its, n, r, e, z⟩
/-- the list at p is written by an update of its object -/
theorem Inv.lstUpd {pins : List (Addr × Obj)} {σ : St} {H : Hp} {s : Shared} {p : Addr} {xs ys : List V} {its its' : List Value} {n n' : Nat} {f : Obj → Obj} (I : Inv X pins σ H s) (h : H p = some (.lst xs))
    (ho : s.heap.get? p = some { cls := .type "list", data := .seq its.toArray n }) (hf : f { cls := .type "list", data := .seq its.toArray n } = { cls := .type "list", data := .seq its'.toArray n' }) (r : Vals ys its') (hz : ys.length ≤ sizeLine) (t : Nat) :
    Inv X pins σ (upd H p (.lst ys)) { s with heap := s.heap.update p f, toks := t } := by
  have e : (s.heap.update p f).get? p = some { cls := .type "list", data := .seq its'.toArray n' } := by
    rw [Heap.get?_update_self f ho (by rw [hf] <;> rfl), hf]
  refine I.write (x := p) (e := p) (by rw [h]; trivial) (.inl rfl) (fun b u hb q => (Heap.get?_update_other _ _ (Ne.symm hb)).trans q) ⟨_, e⟩ ?_
  exact ⟨hz, its', n', r, e⟩
def rSetL : V → V → V → Hp → (Hp → Prop) → Prop := fun o i v H Q => ∃ p xs k j, o = .ref p ∧ i = .int k ∧ H p = some (.lst xs) ∧ ixN xs.length k = some j ∧ Q (upd H p (.lst (xs.set j v)))
theorem set_list : PSet X rSetL := by
  intro pins s σ H o i v ov iv u Q I ro ri rv h
  obtain ⟨p, xs, k, j, rfl, rfl, hp, hj, q⟩ := h
  cases ro
  obtain ⟨t, rfl⟩ := ri
  obtain ⟨its, n, r, ho, hz⟩ := I.lst hp
  obtain ⟨h1, h2, h3, h4⟩ := ixN_seq hj
  have hl := r.length
  have hn := line63
  have I' : Inv X pins σ (upd H p (.lst (xs.set j v))) { s with heap := s.heap.update p (Obj.mapSeq (·.setIfInBounds j u)) } :=
    I.lstUpd hp ho (mapSeq_set its n j u) (r.set rv j) (by rw [List.length_set]; exact hz) s.toks
  by_cases h0 : 0 ≤ k
  · have hk : k.toNat = j := by
      rw [seqIndex_of h0 h4] at h1
      exact Option.some.inj h1
    exact PySem.W.ki_setAt ho h0 (by omega) (by rw [List.size_toArray, ← hl]; exact h4) (by rw [hk]; exact ⟨_, I', q⟩)
  · have hk : (k + (its.toArray.size : Int)).toNat = j := by
      rw [seqIndex_neg (by omega) h3] at h1
      rw [List.size_toArray, ← hl]
      exact Option.some.inj h1
    exact PySem.W.ki_setBack ho (by omega) (by rw [List.size_toArray, ← hl]; exact h3) (by omega) (by rw [hk]; exact ⟨_, I', q⟩)

/-! ### slices -/
theorem slice_bounds (lo hi : Option Int) (n : Nat) : (sliceBounds lo hi none n).1 = ((HT.sIx n 0 lo : Nat) : Int) ∧ (sliceBounds lo hi none n).2.1 = ((HT.sIx n n hi : Nat) : Int) ∧ (sliceBounds lo hi none n).2.2 = 1 := by
  refine ⟨?_, ?_, rfl⟩
  · cases lo with
    | none => simp [sliceBounds, HT.sIx]
    | some i =>
      simp only [sliceBounds, HT.sIx, Option.getD_none, show (1 : Int) > 0 by decide, if_true]
      by_cases h : i < 0
      · simp only [h, if_true] <;> omega
      · simp only [h, if_false] <;> omega
  · cases hi with
    | none => simp [sliceBounds, HT.sIx]
    | some i =>
      simp only [sliceBounds, HT.sIx, Option.getD_none, show (1 : Int) > 0 by decide, if_true]
      by_cases h : i < 0
      · simp only [h, if_true] <;> omega
      · simp only [h, if_false] <;> omega
theorem slicePick_cut (its : List Value) (lo hi : Option Int) : slicePick its.toArray lo hi none = ((its.drop (HT.sIx its.length 0 lo)).take (HT.sIx its.length its.length hi - HT.sIx its.length 0 lo)).toArray := by
  obtain ⟨h1, h2, h3⟩ := slice_bounds lo hi its.toArray.size
  unfold slicePick
  rw [h1, h2, h3]
  simp only [sliceRange_one, pick_run, List.size_toArray] <;> rfl
/-- xs[lo:hi] of a list: a new list -/
def rSlL (K : PySem.W.Frag) : V → Option Int → Option Int → Hp → VK → Prop := fun x lo hi H Q => ∃ a xs, x = .ref a ∧ SqL K H a xs ∧ ∀ p, H p = none → Q (.ref p) (upd H p (.lst (cutV xs lo hi)))
theorem sl_list : SlR X (rSlL X.K) := by
  intro pins s σ H x v vl vu lo hi sl Q I rx hs pl pu h
  obtain ⟨a, xs, rfl, hx, q⟩ := h
  cases rx
  obtain ⟨its, r, ht, hz⟩ := I.list hx
  have hlen := r.length
  refine ⟨"list", _, slot_list_getitem.lookup, ht.isList.typeIs, ?_⟩
  refine wpAny_getItem_list_slice ht.isList hs pl pu .none (by simp) ?_ (by rw [List.size_toArray] <;> omega)
  rw [slicePick_cut, ← hlen]
  refine ⟨.ref s.heap.objs.size, _, I.laid (t' := s.toks) (o := .lst (cutV xs lo hi)) (fun b ob q => Heap.get?_push_of_some _ q) (Nat.le_refl _) ?_, rfl, q _ (I.hok.fresh (Nat.le_refl _))⟩
  exact ⟨Nat.le_trans (cutV_length xs lo hi) hz, _, 0, (r.drop (HT.sIx xs.length 0 lo)).take (HT.sIx xs.length xs.length hi - HT.sIx xs.length 0 lo), Heap.get?_push_size _ rfl⟩

/-! ### in, not in: flat items -/
def flatV : V → Bool
  | .non => true
  | .bl _ => true
  | .int _ => true
  | .str _ => true
  | _ => false
/-- == of flat values -/
def eqV : V → V → Bool
  | .non, .non => true
  | .bl a, .bl b => a == b
  | .bl a, .int b => (if a then 1 else 0) == b
  | .int a, .bl b => a == (if b then 1 else 0)
  | .int a, .int b => a == b
  | .str a, .str b => a == b
  | _, _ => false
theorem eqAt_V {A : Around} {s : Shared} {y x : V} {u v : Value} (ry : RelV y u) (rx : RelV x v) (fy : flatV y = true) (fx : flatV x = true) : SeqAt.EqAt A s u v (eqV y x) := by
  cases y with
  | non =>
    cases ry
    cases x with
    | non => cases rx; exact SeqAt.EqAt.same _
    | bl b => cases rx; exact SeqAt.EqAt.none_bool b
    | int b => obtain ⟨t, rfl⟩ := rx; exact SeqAt.EqAt.none_int b t
    | str b => obtain ⟨t, rfl⟩ := rx; exact SeqAt.EqAt.none_str b t
    | _ => exact absurd (show false = true from fx) Bool.false_ne_true
  | bl a =>
    cases ry
    cases x with
    | non => cases rx; exact SeqAt.EqAt.bool_none a
    | bl b => cases rx; exact SeqAt.EqAt.bool_bool a b
    | int b => obtain ⟨t, rfl⟩ := rx; exact SeqAt.EqAt.bool_int a b t
    | str b => obtain ⟨t, rfl⟩ := rx; exact SeqAt.EqAt.bool_str a b t
    | _ => exact absurd (show false = true from fx) Bool.false_ne_true
  | int a =>
    obtain ⟨t', rfl⟩ := ry
    cases x with
    | non => cases rx; exact SeqAt.EqAt.int_none a t'
    | bl b => cases rx; exact SeqAt.EqAt.int_bool a t' b
    | int b => obtain ⟨t, rfl⟩ := rx; exact SeqAt.EqAt.int_int a t' b t
    | str b => obtain ⟨t, rfl⟩ := rx; exact SeqAt.EqAt.int_str a t' b t
    | _ => exact absurd (show false = true from fx) Bool.false_ne_true
  | str a =>
    obtain ⟨t', rfl⟩ := ry
    cases x with
    | non => cases rx; exact SeqAt.EqAt.str_none a t'
    | bl b => cases rx; exact SeqAt.EqAt.str_bool a t' b
    | int b => obtain ⟨t, rfl⟩ := rx; exact SeqAt.EqAt.str_int a t' b t
    | str b => obtain ⟨t, rfl⟩ := rx; exact SeqAt.EqAt.str_str a t' b t
    | _ => exact absurd (show false = true from fx) Bool.false_ne_true
  | _ => exact absurd (show false = true from fy) Bool.false_ne_true
/-- the items' answers, read off the values (a value's own answer does not lean on its token) -/
def eqU (x : V) (u : Value) : Bool := match u with
  | .none => eqV .non x
  | .bool b => eqV (.bl b) x
  | .int i _ => eqV (.int i) x
  | .str z _ => eqV (.str z) x
  | _ => false
theorem eqU_of {x y : V} {u : Value} (r : RelV y u) (f : flatV y = true) : eqU x u = eqV y x := by
  cases y with
  | non => cases r; rfl
  | bl b => cases r; rfl
  | int i => obtain ⟨t, rfl⟩ := r; rfl
  | str z => obtain ⟨t, rfl⟩ := r; rfl
  | _ => exact absurd (show false = true from f) Bool.false_ne_true
theorem any_eqU {x : V} : ∀ {xs : List V} {us : List Value}, Vals xs us → xs.all flatV = true → us.any (eqU x) = xs.any fun y => eqV y x
  | _, _, .nil, _ => rfl
  | y :: xs, u :: us, .cons r t, f => by
    rw [List.all_cons, Bool.and_eq_true] at f
    rw [List.any_cons, List.any_cons, eqU_of r f.1, any_eqU t f.2]
theorem mem_eqAt {A : Around} {s : Shared} {x : V} {v : Value} (rx : RelV x v) (fx : flatV x = true) : ∀ {xs : List V} {us : List Value}, Vals xs us → xs.all flatV = true → ∀ u ∈ us, SeqAt.EqAt A s u v (eqU x u)
  | _, _, .nil, _ => fun u hu => by cases hu
  | y :: xs, u :: us, .cons r t, f => fun u' hu => by
    rw [List.all_cons, Bool.and_eq_true] at f
    rcases List.mem_cons.mp hu with rfl | hu
    · rw [eqU_of r f.1]; exact eqAt_V r rx f.1 fx
    · exact mem_eqAt rx fx t f.2 u' hu
def inV (x : V) (xs : List V) : Bool := xs.any fun y => eqV y x
/-- x in a list or tuple of flat items -/
def rIn (K : PySem.W.Frag) (neg : Bool) : R2 := fun x y H Q => ∃ p xs, y = .ref p ∧ (SqL K H p xs ∨ SqT K H p xs) ∧ flatV x = true ∧ xs.all flatV = true ∧ Q (.bl (if neg then !inV x xs else inV x xs)) H
theorem op_in_seq : OpR X (compareOp .In) (rIn X.K false) := by
  intro pins s σ H x y v u Q I rx ry h
  obtain ⟨p, xs, rfl, hq, fx, fs, q⟩ := h
  cases ry
  rcases hq with hq | hq
  · obtain ⟨its, r, pl, hz⟩ := I.list hq
    refine SeqAt.in_listAt (eqU x) pl.isList (fun w hw => mem_eqAt rx fx r fs w (by simpa using hw)) ⟨.bl _, H, I, rfl, ?_⟩
    rw [show its.toArray.any (eqU x) = its.any (eqU x) by simp, any_eqU r fs]
    exact q
  · obtain ⟨its, r, pl, hz⟩ := I.tuple hq
    refine SeqAt.in_tupleAt (eqU x) pl (fun w hw => mem_eqAt rx fx r fs w (by simpa using hw)) ⟨.bl _, H, I, rfl, ?_⟩
    rw [show its.toArray.any (eqU x) = its.any (eqU x) by simp, any_eqU r fs]
    exact q
/-! ### len, list(x), tuple(x) of any list or tuple that is read -/
theorem call_len_seq : CallR X (.builtin "len") (fun xs H Q => ∃ p ys, xs = [.ref p] ∧ (SqL X.K H p ys ∨ SqT X.K H p ys) ∧ Q (.int ys.length) H) := by
  intro pins s σ H xs us Q I r h
  obtain ⟨p, ys, rfl, hq, q⟩ := h
  obtain ⟨u, rfl, rx⟩ := vals1 r
  cases rx
  have hn := line63
  rcases hq with hq | hq
  · obtain ⟨its, r', pl, hz⟩ := I.list hq
    have hlen := r'.length
    exact Calls.call_len_list pl.isList (by simp only [List.size_toArray] <;> omega) ⟨.int ys.length, H, I.tok _, ⟨s.toks + 1, by rw [List.size_toArray, hlen]⟩, q⟩
  · obtain ⟨its, r', pl, hz⟩ := I.tuple hq
    have hlen := r'.length
    exact len_tuple pl (by simp only [List.size_toArray] <;> omega) ⟨.int ys.length, H, I.tok _, ⟨s.toks + 1, by rw [List.size_toArray, hlen]⟩, q⟩
theorem call_list_of : CallR X (.type "list") (fun xs H Q => ∃ p ys, xs = [.ref p] ∧ (SqL X.K H p ys ∨ SqT X.K H p ys) ∧ ∀ l, H l = none → Q (.ref l) (upd H l (.lst ys))) := by
  intro pins s σ H xs us Q I r h
  obtain ⟨p, ys, rfl, hq, q⟩ := h
  obtain ⟨u, rfl, rx⟩ := vals1 r
  cases rx
  have fin : ∀ (its : List Value), Vals ys its → ys.length ≤ sizeLine → ∀ (h' : Heap) (c' : Nat), (∀ b o', s.heap.get? b = some o' → h'.get? b = some o') →
      h'.get? s.heap.objs.size = some { cls := .type "list", dict := none, data := .seq its.toArray c', slots := #[] } → EP X pins σ Q (.ref s.heap.objs.size) { s with heap := h' } := fun its r' hz h' c' kp e =>
    ⟨.ref s.heap.objs.size, _, I.laid (t' := s.toks) kp (Nat.le_refl _) (show ObjOk X.prog X.w _ h' _ (.lst ys) from ⟨hz, its, c', r', e⟩), rfl, q _ (I.hok.fresh (Nat.le_refl _))⟩
  rcases hq with hq | hq
  · obtain ⟨its, r', pl, hz⟩ := I.list hq
    have hlen := r'.length
    obtain ⟨o, ho, hc, n, hd⟩ := pl.isList
    exact call_list_seq p (.inl rfl) ho hc hd (fun h' c' kp e => fin its r' hz h' c' kp e) (by simp only [List.size_toArray] <;> omega)
  · obtain ⟨its, r', pl, hz⟩ := I.tuple hq
    have hlen := r'.length
    obtain ⟨o, ho, hc, n, hd⟩ := pl
    exact call_list_seq p (.inr rfl) ho hc hd (fun h' c' kp e => fin its r' hz h' c' kp e) (by simp only [List.size_toArray] <;> omega)
/-! ### the call of a builtin's method: o.m(..) -/
/-- the value is of that builtin type -/
def tyV (K : PySem.W.Frag) (T : String) (x : V) (H : Hp) : Prop := match x with
  | .str _ => T = "str"
  | .int _ => T = "int"
  | .ref p => (T = "list" ∧ ∃ xs, SqL K H p xs) ∨ (T = "tuple" ∧ ∃ o, K.lookup p = some o ∧ o.cls = .type "tuple" ∧ o.dict = none) ∨
      (T = "dict" ∧ ((∃ kvs, H p = some (.dK kvs)) ∨ ∃ kvs, H p = some (.dT kvs))) ∨ (T = "set" ∧ ∃ S n, H p = some (.set S n))
  | _ => False
theorem tyV_is {pins : List (Addr × Obj)} {σ : St} {H : Hp} {s : Shared} {T : String} {x : V} {v : Value} (I : Inv X pins σ H s) (r : RelV x v) (ty : tyV X.K T x H) :
    s.TypeIs v T ∧ ∀ a, v = .ref a → ∃ ob, s.heap.get? a = some ob ∧ ob.dict = none := by
  cases x with
  | str z =>
    obtain ⟨t, rfl⟩ := r
    cases (show T = "str" from ty)
    exact ⟨typeIs_str s z t, fun _ e => nomatch e⟩
  | int i =>
    obtain ⟨t, rfl⟩ := r
    cases (show T = "int" from ty)
    exact ⟨typeIs_int s i t, fun _ e => nomatch e⟩
  | ref p =>
    cases r
    rcases ty with ⟨rfl, xs, hq⟩ | ⟨rfl, o, hk, hc, hd⟩ | ⟨rfl, hk⟩ | ⟨rfl, S, n, hk⟩
    · obtain ⟨its, _, pl, _⟩ := I.list hq
      refine ⟨pl.isList.typeIs, fun a e => ?_⟩
      cases e
      obtain ⟨o, n, e, c, hd, _⟩ := pl
      exact ⟨o, e, hd⟩
    · refine ⟨⟨o, I.kIn p o hk, hc⟩, fun a e => ?_⟩
      cases e
      exact ⟨o, I.kIn _ o hk, hd⟩
    · have z : ∃ o, s.heap.get? p = some o ∧ o.ExactDict := by
        rcases hk with ⟨kvs, hk⟩ | ⟨kvs, hk⟩
        · obtain ⟨_, _, _, _, o, _, _, e, ex, _⟩ := I.hok p _ hk
          exact ⟨o, e, ex⟩
        · obtain ⟨_, _, _, _, o, _, _, e, ex, _⟩ := I.hok p _ hk
          exact ⟨o, e, ex⟩
      obtain ⟨o, e, ex⟩ := z
      refine ⟨⟨o, e, ex.1⟩, fun a e2 => ?_⟩
      cases e2
      exact ⟨o, e, ex.2.1⟩
    · obtain ⟨o, _, _, _, e, ex, _⟩ := I.hok p _ hk
      refine ⟨⟨o, e, ex.1⟩, fun a e2 => ?_⟩
      cases e2
      exact ⟨o, e, ex.2.1⟩
  | _ => exact False.elim ty
def tBM (K : PySem.W.Frag) (T : String) (r : V → List V → Hp → VK → Prop) (to : TE) (t : TA) : TE := fun σ H Q => to σ H fun x H1 => tyV K T x H1 ∧ t σ H1 fun xs H2 => r x xs H2 Q
variable {o e : Expr} {es : List Expr} {to : TE} {t : TA} {name : Str} {apos cpos : Pos} {T id : String} {r : V → List V → Hp → VK → Prop}
theorem pe_bm (pa : PlainAttrs T) (slot : Slot T name id) (hty : typeOf (.builtin id) = pure (.type "method_descriptor")) (hm : MtR X id r) (ho : PE X o to) (ha : PA X (e :: es) t)
    (hbase : attributeBase o name X.env (eval o X.env) = eval o X.env := by rfl)
    (hfew : ((backTo cpos (starEach (e :: es) X.env)).all (fun x => !x.1) && (backToKw cpos (keywordEach [] X.env)).all (fun x => x.1.isSome)
      && decide ((e :: es).length + ([] : List Keyword).length + (if ([] : List Keyword).isEmpty then 0 else 1) < 30)) = true := by rfl)
    (hline : (apos.endLine == cpos.line) = true := by rfl) (hs : starEach (e :: es) X.env = (false, eval e X.env) :: starEach es X.env := by rfl) (hplain : (backTo cpos (starEach es X.env)).any (·.1) = false := by rfl) :
    PE X (.Call (.Attribute o name apos) (e :: es) [] cpos) (tBM X.K T r to t) := by
  intro pins s σ H Q I h
  refine wpAny_Call_method_late hbase hfew hline rfl (thn (ho pins s σ H _ I h) fun v s1 hq9 => ?_)
  obtain ⟨x, H1, I1, r1, ty, q1⟩ := hq9
  obtain ⟨h1, h2⟩ := tyV_is I1 r1 ty
  refine ⟨T, id, pa, slot, hty, h1, h2, ?_⟩
  have hA := ha cpos pins s1 σ H1 _ I1 q1
  rw [hs] at hA ⊢
  refine Calls.callWith_builtin (by show (false || (backTo cpos (starEach es X.env)).any (·.1)) = false; rw [hplain] <;> rfl) (Calls.evalArgs_plain ?_)
  exact thn hA fun us s2 ⟨vs, H2, I2, r2, q2⟩ => hm pins s2 σ H2 x vs v us Q I2 r1 r2 q2
end
end L2

namespace L2
open PySem PySem.Spec PyProof.Rows

def MtM (X : Cx) (id : String) (r : V → List V → Hp → VK → Prop) : Prop :=
  ∀ (pins : List (Addr × Obj)) (s : Shared) (σ : St) (H : Hp) (x : V) (xs : List V) (v : Value) (us : List Value) (Q : VK), Inv X pins σ H s → RelV x v → Vals xs us → r x xs H Q →
    wpAny (model X.prog X.w) X.A (call (.builtin id) (v :: us)) (EP X pins σ Q) X.xe s

/-! ### lists of values -/
theorem Vals.one : ∀ {x : V} {us : List Value}, Vals [x] us → ∃ u, us = [u] ∧ RelV x u
  | _, _, .cons r .nil => ⟨_, rfl, r⟩
theorem Vals.rep {xs : List V} {us : List Value} (h : Vals xs us) : ∀ k : Nat, Vals (List.replicate k xs).flatten (List.replicate k us).flatten
  | 0 => .nil
  | k + 1 => by
    rw [List.replicate_succ, List.replicate_succ, List.flatten_cons, List.flatten_cons]
    exact Vals.append h (Vals.rep h k)
theorem foldl_rep (its : List Value) : ∀ (k : Nat) (acc : List Value),
    List.foldl (fun x1 x2 => x1 ++ x2) acc.toArray (List.replicate k its.toArray) = (acc ++ (List.replicate k its).flatten).toArray
  | 0, acc => by simp
  | k + 1, acc => by
    have e : acc.toArray ++ its.toArray = (acc ++ its).toArray := by simp
    have e2 : (acc ++ its) ++ (List.replicate k its).flatten = acc ++ (List.replicate (k + 1) its).flatten := by
      rw [List.replicate_succ, List.flatten_cons, List.append_assoc]
    rw [← e2, ← foldl_rep its k (acc ++ its), ← e, List.replicate_succ, List.foldl_cons]

section
variable {X : Cx} {pins : List (Addr × Obj)} {σ : St} {H : Hp} {s : Shared} {l b : Addr} {xs ys zs : List V}

/-! ### the two steps: a tracked list is rewritten, a new list is laid -/
theorem Inv.lset {its its' : List Value} {n : Nat} {f : Array Value → Array Value} {t' : Nat} (I : Inv X pins σ H s) (hH : H l = some (.lst xs))
    (e : s.heap.get? l = some { cls := .type "list", data := .seq its.toArray n }) (hf : f its.toArray = its'.toArray) (hv : Vals ys its') (hz : ys.length ≤ sizeLine) :
    Inv X pins σ (upd H l (.lst ys)) { s with heap := s.heap.update l (Obj.mapSeq f), toks := t' } := by
  have q := PySem.IsL.update e f
  rw [hf] at q
  refine I.write (x := l) (e := l) (by rw [hH]; exact trivial) (.inl rfl) (fun b' u hb hu => (Heap.get?_update_other s.heap (Obj.mapSeq f) (Ne.symm hb)).trans hu) ⟨_, q⟩ ?_
  exact ⟨hz, its', _, hv, q⟩
theorem Inv.lnew {its : List Value} {t' : Nat} (I : Inv X pins σ H s) (hv : Vals ys its) (hz : ys.length ≤ sizeLine) :
    Inv X pins σ (upd H s.heap.objs.size (.lst ys)) { s with heap := s.heap.push { cls := .type "list", data := .seq its.toArray }, toks := t' } :=
  I.laid (fun _ _ q => Heap.get?_push_of_some _ q) (Nat.le_refl _) ⟨hz, its, 0, hv, Heap.get?_push_size _ rfl⟩
theorem Inv.fresh (I : Inv X pins σ H s) : H s.heap.objs.size = none := I.hok.fresh (Nat.le_refl _)
theorem Inv.lstM (I : Inv X pins σ H s) (hH : H l = some (.lst xs)) : xs.length ≤ sizeLine ∧ ∃ (its : List Value) (n : Nat), Vals xs its ∧ xs.length = its.length ∧ s.heap.get? l = some { cls := .type "list", data := .seq its.toArray n } := by
  obtain ⟨z, its, n, r, e⟩ := I.hok l _ hH
  exact ⟨z, its, n, r, r.length, e⟩

theorem notLongL {n : Nat} (h : n ≤ sizeLine) : Builtin.List.listTooLong n = false := by
  unfold Builtin.List.listTooLong
  exact decide_eq_false (by omega)
end

section
variable {X : Cx}

/-! ### methods -/
def rAppend : V → List V → Hp → VK → Prop := fun x vs H Q => ∃ l xs y, x = .ref l ∧ vs = [y] ∧ H l = some (.lst xs) ∧ xs.length < sizeLine ∧ Q .non (upd H l (.lst (xs ++ [y])))
theorem mt_append : MtM X "list.append" rAppend := by
  intro pins s σ H x vs v us Q I rx rv h
  obtain ⟨l, xs, y, rfl, rfl, hH, hz, q⟩ := h
  cases rx
  obtain ⟨u, rfl, ru⟩ := rv.one
  obtain ⟨z, its, n, r, hl, e⟩ := I.lstM hH
  refine call_meets F.slot_list_append ⟨_, e, rfl⟩ F.entry_list_append (F.args_list_append_2 _ _) (PySem.list_append l its.toArray n u (by rw [List.size_toArray]; omega)) ⟨e, ?_⟩
  refine ⟨.non, _, I.lset (its' := its ++ [u]) hH e (by simp) (r.append (.cons ru .nil)) ?_, rfl, q⟩
  rw [List.length_append, List.length_singleton]
  omega

def rExtend : V → List V → Hp → VK → Prop := fun x vs H Q => ∃ l b xs zs, x = .ref l ∧ vs = [.ref b] ∧ H l = some (.lst xs) ∧ H b = some (.lst zs) ∧ xs.length + zs.length ≤ sizeLine ∧ Q .non (upd H l (.lst (xs ++ zs)))
theorem mt_extend : MtM X "list.extend" rExtend := by
  intro pins s σ H x vs v us Q I rx rv h
  obtain ⟨l, b, xs, zs, rfl, rfl, hH, hB, hz, q⟩ := h
  cases rx
  obtain ⟨u, rfl, ru⟩ := rv.one
  cases ru
  obtain ⟨z, its, n, r, hl, e⟩ := I.lstM hH
  obtain ⟨z2, its2, n2, r2, hl2, e2⟩ := I.lstM hB
  have hsz : its.toArray.size + its2.toArray.size ≤ sizeLine := by rw [List.size_toArray, List.size_toArray]; omega
  have hlong : ¬ (!its.toArray.isEmpty && Builtin.List.listTooLong (its.toArray.size + its2.toArray.size)) = true := by
    rw [notLongL hsz, Bool.and_false]
    exact Bool.false_ne_true
  refine call_meets F.slot_list_extend ⟨_, e, rfl⟩ F.entry_list_extend (F.args_list_extend_2 _ _)
    (AutoSeq1.list_extend_list_list_0 l its.toArray n b its2.toArray n2 hlong (by rw [List.size_toArray]; omega) (by omega)) ⟨e, e2, ?_⟩
  refine ⟨.non, _, I.lset (its' := its ++ its2) hH e (by simp) (r.append r2) ?_, rfl, q⟩
  rw [List.length_append]
  omega

/-! ### list + list, list += list, list * int -/
def rCat : R2 := fun x y H Q => ∃ l b xs zs, x = .ref l ∧ y = .ref b ∧ H l = some (.lst xs) ∧ H b = some (.lst zs) ∧ xs.length + zs.length ≤ sizeLine ∧ ∀ p, H p = none → Q (.ref p) (upd H p (.lst (xs ++ zs)))
theorem op_cat : OpR X (binaryOp .Add) rCat := by
  intro pins s σ H x y v u Q I rx ry h
  obtain ⟨l, b, xs, zs, rfl, rfl, hH, hB, hz, q⟩ := h
  cases rx
  cases ry
  obtain ⟨z, its, n, r, hl, e⟩ := I.lstM hH
  obtain ⟨z2, its2, n2, r2, hl2, e2⟩ := I.lstM hB
  refine PySem.P.add_list e e2 ?_ (by rw [List.size_toArray, List.size_toArray]; omega)
  have ea : its.toArray ++ its2.toArray = (its ++ its2).toArray := by simp
  rw [ea]
  exact ⟨.ref _, _, I.lnew (t' := s.toks) (r.append r2) (by rw [List.length_append]; omega), rfl, q _ I.fresh⟩
/-- a list times an int (a negative one is nothing) -/
def rRep : R2 := fun x y H Q => ∃ l k xs, x = .ref l ∧ y = .int k ∧ H l = some (.lst xs) ∧ -(2 ^ 63) ≤ k ∧ k < 2 ^ 63 ∧ xs.length * k.toNat ≤ sizeLine ∧
  ∀ p, H p = none → Q (.ref p) (upd H p (.lst (List.replicate k.toNat xs).flatten))
theorem len_rep {α : Type} (xs : List α) (k : Nat) : (List.replicate k xs).flatten.length = k * xs.length := by
  induction k with
  | zero => simp
  | succ k ih => rw [List.replicate_succ, List.flatten_cons, List.length_append, ih, Nat.succ_mul, Nat.add_comm]
theorem op_rep : OpR X (binaryOp .Mult) rRep := by
  intro pins s σ H x y v u Q I rx ry h
  obtain ⟨l, k, xs, rfl, rfl, hH, h1, h2, hz, q⟩ := h
  cases rx
  obtain ⟨t, rfl⟩ := ry
  obtain ⟨z, its, n, r, hl, e⟩ := I.lstM hH
  have hlen : its.toArray.size * k.toNat ≤ sizeLine := by rw [List.size_toArray, ← hl]; exact hz
  have hcap : ¬ its.toArray.size * k.toNat > (2 ^ 63 - 1) / 8 := by
    have : (sizeLine : Nat) ≤ (2 ^ 63 - 1) / 8 := by decide
    omega
  have hfit : ¬ (!Builtin.List.listFitsIndex k) = true := by
    rw [fitsIndex_both h1 h2]
    exact Bool.false_ne_true
  have hlong : ¬ Builtin.List.listTooLong (its.toArray.size * k.toNat) = true := by
    rw [notLongL hlen]
    exact Bool.false_ne_true
  have hnew : List.foldl (fun x1 x2 => x1 ++ x2) #[] (List.replicate (if its.toArray.isEmpty = true then 0 else k.toNat) its.toArray) = (List.replicate k.toNat its).flatten.toArray := by
    have f0 : ∀ m : Nat, List.foldl (fun x1 x2 => x1 ++ x2) #[] (List.replicate m its.toArray) = (List.replicate m its).flatten.toArray := fun m => by
      have := foldl_rep its m []
      rw [List.nil_append] at this
      exact this
    rw [f0]
    cases its with
    | nil => simp
    | cons a r' => rw [if_neg (by simp)]
  refine wpAny_binaryOp_repeat_ref (T := "list") (U := "int") (by decide) ⟨_, e, rfl⟩ (fun s' => typeIs_int s' k t) noFill_list_mul F.fills_int_mul F.slot_int_rmul repeat_list F.slot_int_index.lookup
    (call_meets F.slot_int_rmul (typeIs_int s k t) F.entry_int_rmul (F.args_int_rmul_2 _ _) (int___rmul___int_list k t l its.toArray n)
      ⟨e, rfl, ⟨_, e, rfl⟩, call_meets F.slot_list_mul ⟨_, e, rfl⟩ F.entry_list_mul (F.args_list_mul_2 _ _) (AutoListH.list___mul___list_int_3 l its.toArray n k t hfit hcap hlong) ⟨e, ?_⟩⟩)
  rw [hnew]
  exact ⟨.ref _, _, I.lnew (t' := s.toks) (r.rep k.toNat) (by rw [len_rep, Nat.mul_comm]; exact hz), rfl, q _ I.fresh⟩

/-! ### del xs[i] -/
end

/-! ### xs[a:b] = ys -/
section
variable {prog : Program} {w : World} {A : Around} {E : Value → Shared → Prop} {s : Shared}
set_option maxRecDepth 100000 in
end

section
variable {X : Cx}
end
end L2

namespace L2
open PySem PySem.Spec PyProof.Rows

theorem Vals.ints : ∀ {ns : List Int} {us : List Value}, Vals (ns.map V.int) us → IntsAre us ns
  | [], us, h => by
    rw [List.map_nil] at h
    cases h
    exact IntsAre.nil
  | n :: ns, us, h => by
    rw [List.map_cons] at h
    cases h with
    | cons r t =>
      obtain ⟨k, rfl⟩ := r
      exact IntsAre.cons n k (Vals.ints t)
theorem vals_of_ints : ∀ {us : List Value} {ns : List Int}, IntsAre us ns → Vals (ns.map V.int) us
  | _, _, .nil => by rw [List.map_nil]; exact Paired.nil
  | _, _, .cons n t h => by rw [List.map_cons]; exact Paired.cons (show RelV (V.int n) (Value.int n t) from ⟨t, rfl⟩) (vals_of_ints h)
theorem Vals.bls : ∀ {bs : List Bool} {us : List Value}, Vals (bs.map V.bl) us → us = bs.map Value.bool
  | [], us, h => by
    rw [List.map_nil] at h
    cases h
    rfl
  | b :: bs, us, h => by
    rw [List.map_cons] at h
    cases h with
    | cons r t =>
      cases r
      rw [Vals.bls t, List.map_cons]
theorem Vals.ref1 {a : Addr} {us : List Value} (r : Vals [V.ref a] us) : us = [Value.ref a] := by
  cases r with
  | cons r t =>
    cases t
    cases r
    rfl
/-! ### the library's walks over a list of ints, kept objects alone -/
section
variable {prog : Program} {w : World} {A : Around} {E : Value → Shared → Prop} {s : Shared} {l : Addr} {its : List Value} {ns : List Int} {Q : Value → Shared → Prop}
end

/-! ### the calls, by values (CallR of 03t; MtR of 06l) -/
section
variable {X : Cx}
/-! sorted, sort (fewer than 64 items: the library's own bound) -/
end

/-! ### list.index, flat items -/
section
variable {X : Cx}
end

/-! ### type(x) of an own instance; is, is not of a module's class -/
section
variable {X : Cx}
end

/-! ### any(xs), all(xs) of a list of bools -/
theorem iter_any {prog : Program} {w : World} {A : Around} {E : Value → Shared → Prop} {s : Shared} {l : Addr} {items : Array Value} {Q : Value → Shared → Prop} (hl : s.heap.IsList l items)
    (h : ∀ s₂ : Shared, s₂ = { s with heap := s.heap.push { cls := .type "list_iterator", data := .fields #[.ref l, .int 0 0] } } →
      (s₂.heap.IsListIter s.heap.objs.size l 0 ∧ s₂.heap.IsList l items) → l ≠ s.heap.objs.size → Q (.ref s.heap.objs.size) s₂) : wpAny (model prog w) A (pyIter (.ref l)) Q E s := by
  have hlt : l < s.heap.objs.size := by obtain ⟨_, e, _⟩ := hl; exact Heap.lt_size e
  exact wpAny_pyIter_list hl (h _ rfl ⟨⟨_, Heap.get?_push_size _ rfl, rfl, rfl⟩, hl.push _⟩ (Nat.ne_of_lt hlt))
theorem truth_bools {prog : Program} {w : World} {A : Around} {bs : List Bool} {its : List Value} (e : its = bs.map Value.bool) :
    TruthOf prog w A (fun i v => its.toArray[i]? = some v) (fun i => bs.getD i false) := fun i v s Q E hv hq => by
  have hv' : its[i]? = some v := by simpa using hv
  rw [e, List.getElem?_map] at hv'
  obtain ⟨b, hb, rfl⟩ := Option.map_eq_some_iff.mp hv'
  have hg : bs.getD i false = b := by rw [List.getD_eq_getElem?_getD, hb] <;> rfl
  have hq' : Q (bs.getD i false) s := hq
  rw [hg] at hq'
  exact wpAny_truthy_bool hq'
theorem any_range : ∀ bs : List Bool, (List.range bs.length).any (fun i => bs.getD i false) = bs.any id
  | [] => rfl
  | b :: bs => by
    rw [List.length_cons, List.range_succ_eq_map, List.any_cons, List.any_map, List.any_cons, ← any_range bs]
    all_goals rfl
theorem all_range : ∀ bs : List Bool, (List.range bs.length).all (fun i => bs.getD i false) = bs.all id
  | [] => rfl
  | b :: bs => by
    rw [List.length_cons, List.range_succ_eq_map, List.all_cons, List.all_map, List.all_cons, ← all_range bs]
    all_goals rfl
section
variable {X : Cx}
def rAny (K : PySem.W.Frag) : List V → Hp → VK → Prop := fun vs H Q => ∃ (a : Addr) (bs : List Bool), vs = [V.ref a] ∧ SqL K H a (bs.map V.bl) ∧ Q (.bl (bs.any id)) H
def rAll (K : PySem.W.Frag) : List V → Hp → VK → Prop := fun vs H Q => ∃ (a : Addr) (bs : List Bool), vs = [V.ref a] ∧ SqL K H a (bs.map V.bl) ∧ Q (.bl (bs.all id)) H
theorem cr_any (hc : X.calm = true) : CallR X (.builtin "any") (rAny X.K) := by
  intro pins s σ H vs us Q I r h
  obtain ⟨a, bs, rfl, hs, q⟩ := h
  obtain ⟨its, rv, hl, _⟩ := I.list hs
  rw [Vals.ref1 r]
  have hb := rv.bls
  refine call_any_walk (iter_any hl.isList fun s₂ e2 st hne => ?_)
  subst e2
  refine ⟨_, _, _, _, _, _, _, rfl, Walks.list (A := X.A.in1) (I.ok.hd hc) _ a hne its.toArray, st, truth_bools hb, fun h' tk hk => ?_⟩
  refine ⟨.bl _, H, I.kept fun b o eo => hk b o (fun hmem => ?_) (Heap.get?_push_of_some _ eo), ?_, q⟩
  · rcases List.mem_cons.mp hmem with e1 | hmem
    · exact absurd (e1 ▸ Heap.lt_size eo) (Nat.lt_irrefl _)
    · cases hmem
  · show Value.bool _ = Value.bool _
    rw [← any_range, hb, List.size_toArray, List.length_map]
theorem cr_all (hc : X.calm = true) : CallR X (.builtin "all") (rAll X.K) := by
  intro pins s σ H vs us Q I r h
  obtain ⟨a, bs, rfl, hs, q⟩ := h
  obtain ⟨its, rv, hl, _⟩ := I.list hs
  rw [Vals.ref1 r]
  have hb := rv.bls
  refine call_all_walk (iter_any hl.isList fun s₂ e2 st hne => ?_)
  subst e2
  refine ⟨_, _, _, _, _, _, _, rfl, Walks.list (A := X.A.in1) (I.ok.hd hc) _ a hne its.toArray, st, truth_bools hb, fun h' tk hk => ?_⟩
  refine ⟨.bl _, H, I.kept fun b o eo => hk b o (fun hmem => ?_) (Heap.get?_push_of_some _ eo), ?_, q⟩
  · rcases List.mem_cons.mp hmem with e1 | hmem
    · exact absurd (e1 ▸ Heap.lt_size eo) (Nat.lt_irrefl _)
    · cases hmem
  · show Value.bool _ = Value.bool _
    rw [← all_range, hb, List.size_toArray, List.length_map]
end

/-! ### == and != of data at any depth: none, bools, ints, texts, lists, tuples -/
mutual
inductive Dp (K : PySem.W.Frag) (H : Hp) : V → PyData → Prop
  | non : Dp K H .non .none
  | bl (b : Bool) : Dp K H (.bl b) (.bool b)
  | int (i : Int) : Dp K H (.int i) (.int i)
  | str (x : Str) : Dp K H (.str x) (.str x)
  | lst {a : Addr} {xs : List V} {ds : List PyData} : SqL K H a xs → DpAll K H xs ds → Dp K H (.ref a) (.list ds)
  | tup {a : Addr} {xs : List V} {ds : List PyData} : SqT K H a xs → DpAll K H xs ds → Dp K H (.ref a) (.tuple ds)
inductive DpAll (K : PySem.W.Frag) (H : Hp) : List V → List PyData → Prop
  | nil : DpAll K H [] []
  | cons {v : V} {vs : List V} {d : PyData} {ds : List PyData} : Dp K H v d → DpAll K H vs ds → DpAll K H (v :: vs) (d :: ds)
end
section
variable {X : Cx} {pins : List (Addr × Obj)} {σ : St} {H : Hp} {s : Shared}
mutual
theorem Dp.reads (I : Inv X pins σ H s) : ∀ (d : PyData) (v : V) (u : Value), Dp X.K H v d → RelV v u → ∃ as, Reads s.heap u d as
  | .none, _, _, h, r => by
    cases h
    cases r
    exact ⟨_, Reads.none⟩
  | .bool b, _, _, h, r => by
    cases h
    cases r
    exact ⟨_, Reads.bool b⟩
  | .int i, _, _, h, r => by
    cases h
    obtain ⟨t, rfl⟩ := r
    exact ⟨_, Reads.int i t⟩
  | .str x, _, _, h, r => by
    cases h
    obtain ⟨t, rfl⟩ := r
    exact ⟨_, Reads.str x t⟩
  | .list ds, _, _, h, r => by
    cases h with
    | lst hs ha =>
      cases r
      obtain ⟨its, rv, ⟨o, n, ho, hc, _, hd⟩, _⟩ := I.list hs
      obtain ⟨as, hr⟩ := Dp.readsAll I ds _ its ha rv
      exact ⟨_, Reads.list ho hc hd hr⟩
  | .tuple ds, _, _, h, r => by
    cases h with
    | tup hs ha =>
      cases r
      obtain ⟨its, rv, ⟨o, ho, hc, n, hd⟩, _⟩ := I.tuple hs
      obtain ⟨as, hr⟩ := Dp.readsAll I ds _ its ha rv
      exact ⟨_, Reads.tuple ho hc hd hr⟩
  | .dict _, _, _, h, _ => by cases h
theorem Dp.readsAll (I : Inv X pins σ H s) : ∀ (ds : List PyData) (vs : List V) (us : List Value), DpAll X.K H vs ds → Vals vs us → ∃ as, ReadsAll s.heap us ds as
  | [], _, _, h, r => by
    cases h
    cases r
    exact ⟨_, ReadsAll.nil⟩
  | d :: ds, _, _, h, r => by
    cases h with
    | cons h1 h2 =>
      cases r with
      | cons r1 r2 =>
        obtain ⟨as, q1⟩ := Dp.reads I d _ _ h1 r1
        obtain ⟨bs, q2⟩ := Dp.readsAll I ds _ _ h2 r2
        exact ⟨_, ReadsAll.cons q1 q2⟩
end
end
section
variable {X : Cx}
end
end L2

namespace L2
open PySem PySem.Spec PyProof.Rows
abbrev CellAt (h : Heap) (c : Addr) (v : Option Value) : Prop := h.IsCell c v
def relS (scope sc : Scope) : Scope :=
  { scope with names := scope.names.map fun (n, k) => if (k == .free && sc.kind == .function && sc.names.lookup n == some .cell) then (n, .cell) else (n, k) }

def cloFrom (cells : List (Str × Addr)) : List (Str × NameKind) → List (Str × Addr) → List (Str × Addr)
  | [], acc => acc
  | (n, k) :: r, acc => if k == .free then cloFrom cells r ((n, (cells.lookup n).getD 0) :: acc) else cloFrom cells r acc

theorem closure_loop (env : Env) (f : Str × NameKind → List (Str × Addr) → Sem (ForInStep (List (Str × Addr))))
    (hf : ∀ n k c, f (n, k) c = if k == .free then (do let a ← cellOf env n; pure (.yield ((n, a) :: c))) else pure (.yield c)) :
    ∀ (names : List (Str × NameKind)) (acc : List (Str × Addr)), (∀ y ∈ names, y.2 = .free → ∃ c, env.cells.lookup y.1 = some c) → forIn names acc f = pure (cloFrom env.cells names acc)
  | [], acc, _ => by rw [List.forIn_nil]; rfl
  | (n, k) :: r, acc, h => by
    rw [List.forIn_cons, hf]
    have ih := fun acc => closure_loop env f hf r acc fun y hy => h y (List.mem_cons_of_mem _ hy)
    unfold cloFrom
    by_cases hk : (k == NameKind.free) = true
    · rw [if_pos hk, if_pos hk]
      obtain ⟨c, hc⟩ := h (n, k) List.mem_cons_self (by simpa using hk)
      have e : cellOf env n = pure c := by unfold cellOf; rw [hc]
      rw [e]
      have e2 : (env.cells.lookup n).getD 0 = c := by rw [hc]; rfl
      rw [e2]
      exact ih _
    · rw [if_neg hk, if_neg hk]
      exact ih _
theorem closure_ok {scope : Scope} {env : Env} (h : ∀ y ∈ scope.names, y.2 = .free → ∃ c, env.cells.lookup y.1 = some c) : closureFor scope env = pure (cloFrom env.cells scope.names []) := by
  simp only [closureFor]
  rw [closure_loop env _ (fun n k c => rfl) scope.names [] h]
  rfl

theorem mem_lookup {α : Type} : ∀ {l : List (Str × α)} {n : Str} {c : α}, (n, c) ∈ l → ∃ c', l.lookup n = some c'
  | (k, v) :: r, n, c, h => by
    rw [List.lookup_cons]
    cases hb : n == k with
    | true => exact ⟨_, rfl⟩
    | false =>
      rcases List.mem_cons.mp h with e | h
      · cases e; simp at hb
      · exact mem_lookup h

theorem cloFrom_mem {cells : List (Str × Addr)} : ∀ {names : List (Str × NameKind)} {acc : List (Str × Addr)} {n : Str} {c : Addr}, (n, c) ∈ cloFrom cells names acc → (n, c) ∈ acc ∨ ((n, .free) ∈ names ∧ c = (cells.lookup n).getD 0)
  | [], _, _, _, h => .inl h
  | (m, k) :: r, acc, n, c, h => by
    unfold cloFrom at h
    split at h
    · rename_i hk
      have hk : k = .free := by simpa using hk
      rcases cloFrom_mem h with h | ⟨h1, h2⟩
      · rcases List.mem_cons.mp h with e | h
        · cases e; exact .inr ⟨hk ▸ List.mem_cons_self, rfl⟩
        · exact .inl h
      · exact .inr ⟨List.mem_cons_of_mem _ h1, h2⟩
    · rcases cloFrom_mem h with h | ⟨h1, h2⟩
      · exact .inl h
      · exact .inr ⟨List.mem_cons_of_mem _ h1, h2⟩
theorem cloFrom_acc {cells : List (Str × Addr)} : ∀ {names : List (Str × NameKind)} {acc : List (Str × Addr)} {p : Str × Addr}, p ∈ acc → p ∈ cloFrom cells names acc
  | [], _, _, h => h
  | (m, k) :: r, acc, p, h => by
    unfold cloFrom
    split
    · exact cloFrom_acc (List.mem_cons_of_mem _ h)
    · exact cloFrom_acc h
theorem cloFrom_has {cells : List (Str × Addr)} : ∀ {names : List (Str × NameKind)} {acc : List (Str × Addr)} {n : Str}, (n, .free) ∈ names → (n, (cells.lookup n).getD 0) ∈ cloFrom cells names acc
  | (m, k) :: r, acc, n, h => by
    unfold cloFrom
    rcases List.mem_cons.mp h with e | h
    · cases e
      exact cloFrom_acc List.mem_cons_self
    · split
      · exact cloFrom_has h
      · exact cloFrom_has h

theorem cells_mem : ∀ {names : List (Str × NameKind)} {h : Heap} {acc : List (Str × Addr)} {x : Str} {c : Addr}, (x, c) ∈ cellsFrom h.objs.size names acc →
    (x, c) ∈ acc ∨ ((x, .cell) ∈ names ∧ h.objs.size ≤ c ∧ CellAt (pushCells h names) c none)
  | [], _, _, _, _, h => .inl h
  | (n, k) :: r, h, acc, x, c, hm => by
    unfold cellsFrom at hm
    unfold pushCells
    split at hm
    · rename_i hk
      rw [if_pos hk]
      have hk : k = .cell := by simpa using hk
      rw [← Heap.size_push h { cls := .type "cell", data := .cell none }] at hm
      rcases cells_mem hm with hm | ⟨h1, h2, h3⟩
      · rcases List.mem_cons.mp hm with e | hm
        · cases e
          exact .inr ⟨hk ▸ List.mem_cons_self, Nat.le_refl _, _, pushCells_keeps r _ _ _ (Heap.get?_push_size _ rfl), rfl⟩
        · exact .inl hm
      · rw [Heap.size_push] at h2
        exact .inr ⟨List.mem_cons_of_mem _ h1, Nat.le_of_succ_le h2, h3⟩
    · rename_i hk
      rw [if_neg hk]
      rcases cells_mem hm with hm | ⟨h1, h2, h3⟩
      · exact .inl hm
      · exact .inr ⟨List.mem_cons_of_mem _ h1, h2, h3⟩
theorem cells_acc : ∀ {names : List (Str × NameKind)} {n : Nat} {acc : List (Str × Addr)} {p : Str × Addr}, p ∈ acc → p ∈ cellsFrom n names acc
  | [], _, _, _, h => h
  | (m, k) :: r, n, acc, p, h => by
    unfold cellsFrom
    split
    · exact cells_acc (List.mem_cons_of_mem _ h)
    · exact cells_acc h
theorem cells_has : ∀ {names : List (Str × NameKind)} {n : Nat} {acc : List (Str × Addr)} {x : Str}, (x, .cell) ∈ names → ∃ c, (x, c) ∈ cellsFrom n names acc
  | (m, k) :: r, n, acc, x, h => by
    unfold cellsFrom
    rcases List.mem_cons.mp h with e | h
    · cases e
      exact ⟨n, cells_acc List.mem_cons_self⟩
    · split
      · exact cells_has h
      · exact cells_has h
theorem cells_inj : ∀ {names : List (Str × NameKind)} {h : Heap} {acc : List (Str × Addr)} {x y : Str} {c : Addr}, (∀ p ∈ acc, p.2 < h.objs.size) → (∀ x y c, (x, c) ∈ acc → (y, c) ∈ acc → x = y) →
    (x, c) ∈ cellsFrom h.objs.size names acc → (y, c) ∈ cellsFrom h.objs.size names acc → x = y
  | [], _, _, _, _, _, _, hi, h1, h2 => hi _ _ _ h1 h2
  | (n, k) :: r, h, acc, x, y, c, hl, hi, h1, h2 => by
    unfold cellsFrom at h1 h2
    split at h1
    · rename_i hk
      rw [if_pos hk] at h2
      rw [← Heap.size_push h { cls := .type "cell", data := .cell none }] at h1 h2
      refine cells_inj (h := h.push _) (fun p hp => ?_) (fun x y c a b => ?_) h1 h2
      · rw [Heap.size_push]
        rcases List.mem_cons.mp hp with rfl | hp
        · exact Nat.lt_succ_self _
        · exact Nat.lt_succ_of_lt (hl p hp)
      · rcases List.mem_cons.mp a with e | a <;> rcases List.mem_cons.mp b with e' | b
        · cases e; cases e'; rfl
        · cases e; exact absurd (hl _ b) (Nat.lt_irrefl _)
        · cases e'; exact absurd (hl _ a) (Nat.lt_irrefl _)
        · exact hi _ _ _ a b
    · rename_i hk
      rw [if_neg hk] at h2
      exact cells_inj hl hi h1 h2

theorem newEnv_comp {M : Model} {A : Around} {E : Value → Shared → Prop} {s : Shared} {scope : Scope} {globals : Addr} {closure : List (Str × Addr)} {qual : Str} {func : Option Addr} {code : Value} {around : Env} {builtins : Addr} {Q : Env → Shared → Prop}
    (h : Q (newEnv scope s.heap.objs.size globals (cellsFrom (s.heap.objs.size + 1) scope.names closure) qual func code (some around) builtins)
      { s with heap := pushCells (s.heap.push { cls := .type "dict", data := .dict #[] }) scope.names }) :
    wpAny M A (newFunctionEnv scope globals closure [] qual func code (some around) builtins) Q E s := by
  simp only [newFunctionEnv, Option.isSome_some, if_true]
  refine wpAny_bind (wpAny_alloc ?_)
  refine wpAny_bind (wpAny_layCells _ (fun n k c => rfl) scope.names closure _ _ ?_)
  rw [show ({ s with heap := s.heap.push { cls := .type "dict", data := .dict #[] } } : Shared).heap.objs.size = s.heap.objs.size + 1 from Heap.size_push ..]
  rw [List.forIn_nil]
  exact wpAny_bind (wpAny_pure (wpAny_pure h))

/-- every name of the written scope, in the scope that runs -/
theorem lookup_relS {sc : Scope} : ∀ {names : List (Str × NameKind)} {x : Str} {k : NameKind},
    (names.map fun (n, k) => if (k == NameKind.free && sc.kind == .function && sc.names.lookup n == some .cell) then (n, NameKind.cell) else (n, k)).lookup x = some k →
    ∃ k', names.lookup x = some k' ∧ (k = k' ∨ (k' = .free ∧ k = .cell))
  | [], _, _, h => by simp at h
  | (n, k₀) :: r, x, k, h => by
    have ih := @lookup_relS sc r x k
    have h' : List.lookup x ((if (k₀ == NameKind.free && sc.kind == .function && sc.names.lookup n == some .cell) = true then (n, NameKind.cell) else (n, k₀)) :: (r.map _)) = some k := h
    cases hx : x == n with
    | true =>
      simp only [List.lookup_cons, hx]
      by_cases hc : (k₀ == NameKind.free && sc.kind == .function && sc.names.lookup n == some .cell) = true
      · rw [if_pos hc] at h'
        simp only [List.lookup_cons, hx] at h'
        cases h'
        simp only [Bool.and_eq_true, beq_iff_eq] at hc
        exact ⟨k₀, rfl, .inr ⟨hc.1.1, rfl⟩⟩
      · rw [if_neg hc] at h'
        simp only [List.lookup_cons, hx] at h'
        cases h'
        exact ⟨_, rfl, .inl rfl⟩
    | false =>
      simp only [List.lookup_cons, hx]
      by_cases hc : (k₀ == NameKind.free && sc.kind == .function && sc.names.lookup n == some .cell) = true
      · rw [if_pos hc] at h'
        simp only [List.lookup_cons, hx] at h'
        exact ih h'
      · rw [if_neg hc] at h'
        simp only [List.lookup_cons, hx] at h'
        exact ih h'
/-- the names of a comprehension's block: its own (with their places in N), or captured -/
structure BlkOk (N : List Str) (sc scope : Scope) (own : List (Str × Nat)) : Prop where
  kind : scope.kind = .function
  uniq : ∀ y ∈ scope.names, scope.names.lookup y.1 = some y.2
  ix : ∀ p ∈ own, N[p.2]? = some p.1
  free : ∀ y ∈ scope.names, y.2 = .free → sc.names.lookup y.1 = some .cell ∨ sc.names.lookup y.1 = some .free
  own : ∀ y ∈ scope.names, y.2 = .local ∨ y.2 = .cell → y.1 ∈ own.map (·.1) ∨ y.1 ∉ N
/-- the slots of the block's own names forgotten -/
def wipe (σ : St) : List Nat → St
  | [] => σ
  | v :: vs => (wipe σ vs).set v none
theorem wipe_length (σ : St) : ∀ vs : List Nat, (wipe σ vs).length = σ.length
  | [] => rfl
  | v :: vs => by unfold wipe; rw [List.length_set, wipe_length σ vs]
theorem wipe_some {σ : St} {i : Nat} {x : V} : ∀ {vs : List Nat}, (wipe σ vs)[i]? = some (some x) → σ[i]? = some (some x) ∧ i ∉ vs
  | [], h => ⟨h, by simp⟩
  | v :: vs, h => by
    unfold wipe at h
    by_cases hi : v = i
    · subst hi
      by_cases hv : v < (wipe σ vs).length
      · rw [List.getElem?_set_self hv] at h; cases h
      · rw [List.getElem?_eq_none (by simpa using hv)] at h; cases h
    · rw [List.getElem?_set_ne hi] at h
      obtain ⟨h1, h2⟩ := wipe_some h
      exact ⟨h1, by simp only [List.mem_cons, not_or]; exact ⟨fun e => hi e.symm, h2⟩⟩

/-- the context of a block that starts at s, its iterator's objects at fp -/
abbrev Cx.blk (X : Cx) (s : Shared) (H : Hp) (scope : Scope) (cenv : Env) (fp : List Addr) : Cx := { X with s_0 := s, H_0 := H, env := cenv, outer := X.stack, ex := fp, fn := fun x => scope.names.lookup x == some .cell, pn := [], xe := fun _ _ => False }
section
variable {X : Cx} {pins : List (Addr × Obj)} {σ : St} {H : Hp} {s : Shared}
theorem block_start {scope : Scope} {own : List (Str × Nat)} {fp : List Addr} (I : Inv X pins σ H s) (ok : BlkOk X.N X.env.scope scope own) (hN : X.N.Nodup) (hfp : ∀ b ∈ fp, FpOk X pins H b ∧ b < s.heap.objs.size) :
    Inv (X.blk s H scope (compEnvC scope (cellsFrom (s.heap.objs.size + 1) scope.names (cloFrom X.env.cells scope.names [])) s.heap.objs.size X.env) fp) [] (wipe σ (own.map (·.2))) H { s with heap := pushCells (s.heap.push { cls := .type "dict", data := .dict #[] }) scope.names } := by
  have hfree : ∀ y ∈ scope.names, y.2 = .free → ∃ c, X.env.cells.lookup y.1 = some c := fun y hy e => by
    rcases ok.free y hy e with k | k
    · exact I.ok.has _ (.inl k)
    · exact I.ok.has _ (.inr k)
  generalize hcenv : compEnvC scope (cellsFrom (s.heap.objs.size + 1) scope.names (cloFrom X.env.cells scope.names [])) s.heap.objs.size X.env = cenv
  have kp : ∀ b o, s.heap.get? b = some o → (pushCells (s.heap.push { cls := .type "dict", data := .dict #[] }) scope.names).get? b = some o := fun b o e => pushCells_keeps _ _ _ _ (Heap.get?_push_of_some _ e)
  have hL : cenv.locals = s.heap.objs.size := by rw [← hcenv]; rfl
  have hcl : cenv.cells = cellsFrom (s.heap.objs.size + 1) scope.names (cloFrom X.env.cells scope.names []) := by rw [← hcenv]; rfl
  have hsc : cenv.scope = relS scope X.env.scope := by rw [← hcenv]; rfl
  rw [← Heap.size_push s.heap { cls := .type "dict", data := .dict #[] }] at hcl
  have cm : ∀ {y c}, (y, c) ∈ cloFrom X.env.cells scope.names [] → X.env.cells.lookup y = some c ∧ c < s.heap.objs.size := fun {y c} hm => by
    rcases cloFrom_mem hm with hm | ⟨h1, rfl⟩
    · cases hm
    · obtain ⟨c, hc⟩ := hfree _ h1 rfl
      rw [hc]
      obtain ⟨w, z⟩ := I.cell _ _ hc
      exact ⟨rfl, z.lt⟩
  have mem : ∀ {y c}, cenv.cells.lookup y = some c → (X.env.cells.lookup y = some c ∧ c < s.heap.objs.size) ∨ (s.heap.objs.size + 1 ≤ c ∧ CellAt (pushCells (s.heap.push { cls := .type "dict", data := .dict #[] }) scope.names) c none) := fun {y c} e => by
    rw [hcl] at e
    rcases cells_mem (PySem.mem_of_lookup e) with hm | ⟨_, h2, h3⟩
    · exact .inl (cm hm)
    · rw [Heap.size_push] at h2; exact .inr ⟨h2, h3⟩
  have look : ∀ {y}, scope.names.lookup y = some .free → ∃ c, cenv.cells.lookup y = some c ∧ X.env.cells.lookup y = some c := fun {y} hl => by
    have hy : (y, NameKind.free) ∈ scope.names := PySem.mem_of_lookup hl
    obtain ⟨c', e'⟩ := mem_lookup (cells_acc (names := scope.names) (n := (s.heap.push { cls := .type "dict", data := .dict #[] }).objs.size) (cloFrom_has (cells := X.env.cells) (acc := []) hy))
    rw [← hcl] at e'
    refine ⟨c', e', ?_⟩
    rw [hcl] at e'
    rcases cells_mem (PySem.mem_of_lookup e') with hm | ⟨h1, _, _⟩
    · exact (cm hm).1
    · have := ok.uniq _ h1
      rw [hl] at this; cases this
  have okB : (X.blk s H scope cenv fp).Ok := by
    refine ⟨I.ok.mod, by show cenv.scope.kind = _; rw [hsc]; exact ok.kind, by show cenv.globals = _; rw [← hcenv]; exact I.ok.glob, by show cenv.builtins = _; rw [← hcenv]; exact I.ok.blt, by show s.heap.objs.size ≤ cenv.locals; rw [hL]; exact Nat.le_refl _,
      fun y z c e1 e2 => ?_, fun y hy => ?_, fun y c z e => ?_, I.ok.hd, I.ok.frames, .inl rfl, fun b hb => ⟨?_, fun y c e z => ?_⟩, I.bs, Nat.le_trans I.ok.bsz I.sz, fun b o e hb => ?_, fun b hb z => ?_, I.stack, I.stkFree⟩
    · have e1 : cenv.cells.lookup y = some c := e1
      have e2 : cenv.cells.lookup z = some c := e2
      rw [hcl] at e1 e2
      refine cells_inj (fun p hp => ?_) (fun y z c a b => I.ok.inj y z c (cm a).1 (cm b).1) (PySem.mem_of_lookup e1) (PySem.mem_of_lookup e2)
      rw [Heap.size_push]
      exact Nat.lt_succ_of_lt (cm (y := p.1) (c := p.2) hp).2
    · show ∃ c, cenv.cells.lookup y = some c
      have key : ∀ k, cenv.kindOf y = some k → (k = .cell ∨ k = .free) → ∃ c, cenv.cells.lookup y = some c := fun k hk hk' => by
        unfold Env.kindOf at hk
        rw [hsc] at hk
        obtain ⟨k', e, r⟩ := lookup_relS hk
        have : k' = .cell ∨ k' = .free := by
          rcases r with rfl | ⟨rfl, _⟩
          · exact hk'
          · exact .inr rfl
        rcases this with rfl | rfl
        · obtain ⟨c, hm⟩ := cells_has (n := (s.heap.push { cls := .type "dict", data := .dict #[] }).objs.size) (acc := cloFrom X.env.cells scope.names []) (PySem.mem_of_lookup e)
          obtain ⟨c', e'⟩ := mem_lookup hm
          exact ⟨c', by rw [hcl]; exact e'⟩
        · obtain ⟨c, h1, _⟩ := look e
          exact ⟨c, h1⟩
      rcases hy with hy | hy
      · exact key _ hy (.inl rfl)
      · exact key _ hy (.inr rfl)
    · have z : (scope.names.lookup y == some NameKind.cell) = true := z
      have z : scope.names.lookup y = some .cell := by simpa using z
      have e : cenv.cells.lookup y = some c := e
      rw [hcl] at e
      rcases cells_mem (PySem.mem_of_lookup e) with hm | ⟨_, h2, _⟩
      · rcases cloFrom_mem hm with hm | ⟨h1, _⟩
        · cases hm
        · have q := ok.uniq _ h1
          rw [z] at q; cases q
      · rw [Heap.size_push] at h2
        exact Nat.le_of_succ_le h2
    · show b ≠ cenv.locals
      rw [hL]; exact Nat.ne_of_lt (hfp b hb).2
    · have e : cenv.cells.lookup y = some c := e
      rcases mem e with ⟨h1, _⟩ | ⟨h1, _⟩
      · exact (hfp b hb).1.2.2.2.2.1 y c h1 z
      · have h2 : s.heap.objs.size + 1 ≤ b := by rw [← z]; exact h1
        exact absurd (Nat.lt_of_lt_of_le (hfp b hb).2 (Nat.le_of_succ_le h2)) (Nat.lt_irrefl _)
    · rcases (hfp b hb).1.2.2.2.1 with z | z
      · exact I.ok.noex b o e z
      · exact absurd (Nat.lt_of_lt_of_le (Heap.lt_size e) (Nat.le_trans I.ok.bsz z)) (Nat.lt_irrefl _)
    · rcases List.mem_cons.mp (I.stkSub b z) with z | z
      · exact (hfp b hb).1.2.1 z
      · exact (hfp b hb).1.2.2.1 z
  refine ⟨okB, rfl, I.bare, Un.kept kp, ⟨fun _ => none, ?_, fun i y av e1 e2 e3 => ?_⟩, fun y c e => ?_, ?_, fun y c e => ?_, fun p hp => ?_, I.hok.kept kp, by rw [wipe_length]; exact I.len⟩
  · show Heap.Ns _ cenv.locals _
    rw [hL]
    exact Heap.Ns.keeps (Heap.Ns.new ..) fun b o e => pushCells_keeps _ _ _ _ e
  · obtain ⟨e2, hne⟩ := wipe_some e2
    have hfr : scope.names.lookup y = some .free ∧ (cenv.kindOf y = some .cell ∨ cenv.kindOf y = some .free) := by
      have key : ∀ k, cenv.scope.names.lookup y = some k → k = .local ∨ k = .cell ∨ k = .free → scope.names.lookup y = some .free ∧ (cenv.kindOf y = some .cell ∨ cenv.kindOf y = some .free) := fun k hk hk' => by
        have hk0 := hk
        rw [hsc] at hk
        obtain ⟨k', e, r⟩ := lookup_relS hk
        have no : ¬ (k' = .local ∨ k' = .cell) := fun hh => by
          rcases ok.own _ (PySem.mem_of_lookup e) hh with e' | e'
          · obtain ⟨p, hp, hpy⟩ := List.mem_map.mp e'
            have e3 := ok.ix p hp
            have : p.1 = y := hpy
            rw [this] at e3
            exact hne (List.mem_map.mpr ⟨p, hp, nodup_ix hN e3 e1⟩)
          · exact e' (List.mem_of_getElem? e1)
        rcases r with rfl | ⟨rfl, rfl⟩
        · rcases hk' with rfl | rfl | rfl
          · exact absurd (.inl rfl) no
          · exact absurd (.inr rfl) no
          · exact ⟨e, .inr hk0⟩
        · exact ⟨e, .inl hk0⟩
      have e3 : Vis cenv.scope y := e3
      rcases e3 with e3 | e3 | e3
      · exact key _ e3 (.inl rfl)
      · exact key _ e3 (.inr (.inl rfl))
      · exact key _ e3 (.inr (.inr rfl))
    obtain ⟨m, hn, hl⟩ := I.loc
    have hvis : Vis X.env.scope y := (ok.free _ (PySem.mem_of_lookup hfr.1) rfl).elim (fun k => .inr (.inl k)) (fun k => .inr (.inr k))
    obtain ⟨w, r, q⟩ := hl i y av e1 e2 hvis
    refine ⟨w, r, .inr ⟨hfr.2, ?_⟩⟩
    obtain ⟨c, h1, h2⟩ := look hfr.1
    rcases q with ⟨k, _⟩ | ⟨_, c', e', z⟩
    · have k : X.env.scope.names.lookup y = some .local := k
      rcases ok.free _ (PySem.mem_of_lookup hfr.1) rfl with k' | k' <;> rw [show X.env.scope.names.lookup y = _ from k'] at k <;> cases k
    · rw [h2] at e'; cases e'
      exact ⟨c, h1, z.keeps kp⟩
  · have e : cenv.cells.lookup y = some c := e
    rcases mem e with ⟨h1, _⟩ | ⟨_, z⟩
    · obtain ⟨w, z⟩ := I.cell y c h1
      exact ⟨w, z.keeps kp⟩
    · exact ⟨_, z⟩
  · show H cenv.locals = none
    rw [hL]; exact I.hok.fresh (Nat.le_refl _)
  · have e : cenv.cells.lookup y = some c := e
    rcases mem e with ⟨h1, _⟩ | ⟨h1, _⟩
    · exact I.freeC y c h1
    · exact I.hok.fresh (Nat.le_of_succ_le h1)
  · exact absurd (show p ∈ ([] : List (Addr × Obj)) ++ [] from hp) (by simp)

/-- an item appended to a tracked list -/
theorem app_ok {E : Value → Shared → Prop} {D : Addr} {xs : List V} {y : V} {v : Value} {Q : Value → Shared → Prop} (I : Inv X pins σ H s) (hD : H D = some (.lst xs)) (hz : xs.length < sizeLine) (r : RelV y v)
    (h : ∀ s', Inv X pins σ (upd H D (.lst (xs ++ [y]))) s' → Q .none s') : wpAny (model X.prog X.w) X.A (call (.builtin "list.append") [.ref D, v]) Q E s := by
  obtain ⟨hz', its, n, ri, e⟩ := I.hok D _ hD
  have hl := ri.length
  refine append_at (hsz := by rw [List.size_toArray]; omega) e fun h' sb ho' => ?_
  refine h { s with heap := h' } (I.write (t' := s.toks) (by rw [hD]; trivial) (.inl rfl) (fun b u hb q => (sb.2 b hb).trans q) ⟨_, ho'⟩ ⟨by rw [List.length_append]; exact hz, its ++ [v], n + 1, ri.append (.cons r .nil), ?_⟩)
  rw [ho']
  simp

/-- a clause's tests -/
def PTs (X : Cx) (ifs : List Expr) (t : TT) : Prop :=
  ∀ (pins : List (Addr × Obj)) (s : Shared) (σ : St) (H : Hp) (Q : Bool → Hp → Prop), Inv X pins σ H s → t σ H Q →
    wpAny (model X.prog X.w) X.A (forIn ifs true fun c r => if r = true then do let ok ← isTrue c X.env (eval c X.env); pure (ForInStep.yield ok) else pure (ForInStep.yield r)) (TP X pins σ Q) X.xe s
def tYes : TT := fun _ H Q => Q true H
theorem pts_nil : PTs X [] tYes := fun _ _ _ H _ I h => wpAny_tests_nil ⟨H, I, h⟩
theorem pts_one {c : Expr} {t : TT} (h : PT X c t) : PTs X [c] t := fun pins s σ H Q I hw => wpAny_tests_one (h pins s σ H Q I hw)
end

theorem thnF {α : Type} {t : Sem α} {Q Q' : α → Shared → Prop} {M : Model} {A : Around} {E : Value → Shared → Prop} {s : Shared} (h : wpAny M A t Q (fun _ _ => False) s) (hQ : ∀ a s, Q a s → Q' a s) : wpAny M A t Q' E s := wpAny_mono h hQ fun _ _ z => False.elim z

/-- the loop of a list comprehension's block, the target of any form (codeAny_compLoop_tests asks a target that no tuple goes to; statement and proof follow it, PyProof/CompMap.lean:41-61, with the step letOwnedTupleGo kept) -/
theorem compLoop_any {prog : Program} {w : World} {A : Around} {R : Result → Shared → Prop} {s : Shared} {elt target iter : Expr} {ifs : List Expr} {scope : Scope} {pos : Pos} {it acc : Value} {env : Env} (I : Nat → Shared → Prop)
    (turn : ∀ n s, I n s → wpAny (model prog w) A (pyNext it) (fun r s₁ => match r with
      | none => R (.ok .next) s₁
      | some v => wpAny (model prog w) A (letOwnedTupleGo target it v) (fun _ s₁' => wpAny (model prog w) A (assign target env v) (fun _ s₂ =>
          wpAny (model prog w) A (forIn ifs true fun c r => if r = true then do let ok ← isTrue c env (eval c env); pure (ForInStep.yield ok) else pure (ForInStep.yield r)) (fun ok s₃ =>
            if ok = true then wpAny (model prog w) A (eval elt env) (fun x s₄ =>
              wpAny (model prog w) A (call (.builtin "list.append") [acc, x]) (fun _ s₅ => ∃ m, m < n ∧ I m s₅) (notedBy (model prog w) A env fun e s' => R (.error e) s') s₄) (notedBy (model prog w) A env fun e s' => R (.error e) s') s₃
            else ∃ m, m < n ∧ I m s₃) (notedBy (model prog w) A env fun e s' => R (.error e) s') s₂) (notedBy (model prog w) A env fun e s' => R (.error e) s') s₁') (notedBy (model prog w) A env fun e s' => R (.error e) s') s₁) (notedBy (model prog w) A env fun e s' => R (.error e) s') s)
    (n : Nat) (h : I n s) :
    codeAny (model prog w) A (.compLoop (.ListComp elt [⟨target, iter, ifs, 0⟩] scope pos) 0 it acc env) R s := by
  refine codeAny_loop rfl I (fun n s hI => ?_) n h
  show wpAny _ A ((compTurn (.ListComp elt [⟨target, iter, ifs, 0⟩] scope pos) 0 it acc env).onRaise (fun x => do noteFrame x env; theTreesLotGoes x)) _ _ s
  refine wpAny_noted ?_
  rw [compTurn_list]
  refine wpAny_bind (wpAny_standAt (wpAny_bind (wpAny_mono (turn n s hI) (fun r s₁ h₁ => ?_) fun _ _ h' => h')))
  cases r with
  | none => exact wpAny_pure h₁
  | some v =>
    refine wpAny_bind (wpAny_mono h₁ (fun _ s₁' h₁' => ?_) fun _ _ h' => h')
    refine wpAny_bind (wpAny_mono h₁' (fun _ s₂ h₂ => wpAny_bind (wpAny_mono h₂ (fun ok s₃ h₃ => ?_) fun _ _ h' => h')) fun _ _ h' => h')
    cases ok with
    | false => exact wpAny_pure ⟨rfl, h₃⟩
    | true =>
      exact wpAny_bind (wpAny_bind (wpAny_mono h₃ (fun x s₄ h₄ => wpAny_bind (wpAny_mono h₄ (fun _ s₅ h₅ => wpAny_pure (wpAny_pure ⟨rfl, h₅⟩)) fun _ _ h' => h')) fun _ _ h' => h'))

section
variable {X : Cx}
/-- [elt for target in iter if ..]: D the new list; W by the turn and a measure, Nx what a turn is to reach -/
def tLc (wi : TI) (g : TG) (tt : TT) (te : TE) (vs : List Nat) : TE := fun σ H Q => wi σ H fun J H1 => ∀ D, H1 D = none → ∃ W : Nat → Nat → Hp → Prop, (∃ m, W 0 m (upd H1 D (.lst []))) ∧ ∀ i m H, W i m H →
  (J.stop i H ∧ Q (.ref D) H) ∨ (J.go i H ∧ ∃ Nx : Hp → Prop, (∀ H', Nx H' → ∃ m', m' < m ∧ W (i + 1) m' H') ∧ ∀ x H', J.yld i H x H' → g x (wipe σ vs) H' fun σ2 H2 => wipe σ2 vs = wipe σ vs ∧ tt σ2 H2 fun b H3 =>
    if b = true then te σ2 H3 fun y H4 => ∃ acc, H4 D = some (.lst acc) ∧ acc.length < sizeLine ∧ Nx (upd H4 D (.lst (acc ++ [y]))) else Nx H3)
theorem lc_core {pins : List (Addr × Obj)} {s : Shared} {σ : St} {H : Hp} {Q : VK} {elt tg iter : Expr} {ifs : List Expr} {scope : Scope} {own : List (Str × Nat)} {pos pos' : Pos} {wi : TI} {g : TG} {tt : TT} {te : TE} {use : Option (Value → Sem Unit)} {Qf : Value → Shared → Prop}
    (hc : X.calm = true) (hN : X.N.Nodup) (I : Inv X pins σ H s) (hi : PI X tg iter wi) (ok : BlkOk X.N X.env.scope scope own)
    (hg : ∀ (s : Shared) (H : Hp) (C : Addr) (cl : List (Str × Addr)) (fp : List Addr), PG (X.blk s H scope (compEnvC scope cl C X.env) fp) tg g) (ht : ∀ (s : Shared) (H : Hp) (C : Addr) (cl : List (Str × Addr)) (fp : List Addr), PTs (X.blk s H scope (compEnvC scope cl C X.env) fp) ifs tt)
    (he : ∀ (s : Shared) (H : Hp) (C : Addr) (cl : List (Str × Addr)) (fp : List Addr), PE (X.blk s H scope (compEnvC scope cl C X.env) fp) elt te) (hs : ∀ x, foldedSetIterable iter X.env x = pure x)
    (h : tLc wi g tt te (own.map (·.2)) σ H Q)
    (hRR : ∀ D C s' m H', Inv X pins σ H' s' → Q (.ref D) H' → s'.heap.Ns C m → FpOk X pins H' C → compPost (model X.prog X.w) X.A X.xe use Qf (.ref D) C (.ok .next) s') :
    wpAny (model X.prog X.w) X.A (comprehension (.ListComp elt [⟨tg, iter, ifs, 0⟩] scope pos) scope X.env pos' (newList []) false (eval iter X.env) use) Qf X.xe s := by
  have hfree : ∀ y ∈ scope.names, y.2 = .free → ∃ c, X.env.cells.lookup y.1 = some c := fun y hy e => by
    rcases ok.free y hy e with k | k
    · exact I.ok.has _ (.inl k)
    · exact I.ok.has _ (.inr k)
  refine wpAny_comprehension_free (use := use) rfl hs (closure_ok hfree) ok.kind (fun y hy e => by rw [ok.uniq y hy, e])
    (thn (hi pins s σ H _ I h) fun xv s1 hx => thn hx fun itv s2 h2 => ?_)
  obtain ⟨it, fp, tn, J, H2, e, I2, T, st2, f2, q⟩ := h2
  subst e
  refine wpAny_newObj_type (newEnv_comp ?_) (by show 0 ≤ sizeLine; decide)
  generalize hD : s2.heap.objs.size = D
  have hDn : H2 D = none := I2.hok.fresh (Nat.le_of_eq hD)
  obtain ⟨W, ⟨m0, w0⟩, turn⟩ := q D hDn
  -- the new list
  generalize hs3 : ({ s2 with heap := s2.heap.push { cls := .type "list", data := .seq ([] : List Value).toArray } } : Shared) = s3
  have I3 : Inv X pins σ (upd H2 D (.lst [])) s3 := by
    rw [← hs3]
    refine I2.laid (t' := s2.toks) (fun b o e => Heap.get?_push_of_some _ e) (Nat.le_of_eq hD) ⟨Nat.zero_le _, [], 0, .nil, ?_⟩
    rw [← hD]
    exact Heap.get?_push_size _ rfl
  have h3 : s3.heap = s2.heap.push { cls := .type "list", data := .seq ([] : List Value).toArray } := by rw [← hs3]
  have sz : ∀ b ∈ fp, b < s2.heap.objs.size := fun b hb => by
    obtain ⟨o, e, _⟩ := T.obj _ _ st2 b hb
    exact Heap.lt_size e
  have f3 : ∀ b ∈ fp, FpOk X pins (upd H2 D (.lst [])) b ∧ b < s3.heap.objs.size := fun b hb => by
    have hlt := sz b hb
    refine ⟨⟨?_, (f2 b hb).2⟩, by rw [h3, Heap.size_push]; exact Nat.lt_succ_of_lt hlt⟩
    rw [upd_ne (by rw [← hD]; exact Nat.ne_of_lt hlt)]
    exact (f2 b hb).1
  have st3 : tn 0 s3.heap := T.keep _ _ _ st2 fun b _ o e => by rw [h3]; exact Heap.get?_push_of_some _ e
  have I4 := block_start I3 ok hN f3
  have pg := hg s3 (upd H2 D (.lst [])) s3.heap.objs.size (cellsFrom (s3.heap.objs.size + 1) scope.names (cloFrom X.env.cells scope.names [])) fp
  have pt := ht s3 (upd H2 D (.lst [])) s3.heap.objs.size (cellsFrom (s3.heap.objs.size + 1) scope.names (cloFrom X.env.cells scope.names [])) fp
  have pe := he s3 (upd H2 D (.lst [])) s3.heap.objs.size (cellsFrom (s3.heap.objs.size + 1) scope.names (cloFrom X.env.cells scope.names [])) fp
  show codeAny _ _ (.compStart (.ListComp elt [⟨tg, iter, ifs, 0⟩] scope pos) 0 (.ref it) (.ref D) (compEnvC scope (cellsFrom (s3.heap.objs.size + 1) scope.names (cloFrom X.env.cells scope.names [])) s3.heap.objs.size X.env)) (compPost (model X.prog X.w) X.A X.xe use Qf (.ref D) s3.heap.objs.size) { s3 with heap := pushCells (s3.heap.push { cls := .type "dict", data := .dict #[] }) scope.names }
  have nfp : ∀ b ∈ fp, (upd H2 D (.lst [])) b = none := fun b hb => (f3 b hb).1.1
  generalize hce : compEnvC scope (cellsFrom (s3.heap.objs.size + 1) scope.names (cloFrom X.env.cells scope.names [])) s3.heap.objs.size X.env = ce at I4 pg pt pe ⊢
  have cL : ce.locals = s3.heap.objs.size := by subst hce; rfl
  generalize hH3 : upd H2 D (.lst []) = H3 at I3 I4 pg pt pe w0 nfp f3
  generalize hs4 : ({ s3 with heap := pushCells (s3.heap.push { cls := .type "dict", data := .dict #[] }) scope.names } : Shared) = s4 at I4 ⊢
  have st4 : tn 0 s4.heap := T.keep _ _ _ st3 fun b _ o e => by rw [← hs4]; exact pushCells_keeps _ _ _ _ (Heap.get?_push_of_some _ e)
  have stat : ∀ {σ' : St} {H' : Hp} {s' : Shared}, Inv (X.blk s3 H3 scope ce fp) [] σ' H' s' → (∀ b ∈ fp, H' b = none) → ∀ b ∈ fp, FpOk (X.blk s3 H3 scope ce fp) [] H' b := fun {σ' H' s'} I' hn b hb =>
    ⟨hn b hb, (I'.ok.exf b hb).1, I'.ok.exfs b hb, .inl hb, fun x c e => (I'.ok.exf b hb).2 x c e, fun p hp => absurd (show p ∈ ([] : List (Addr × Obj)) ++ [] from hp) (by simp)⟩
  have loop : codeAny (model X.prog X.w) X.A (.compLoop (.ListComp elt [⟨tg, iter, ifs, 0⟩] scope pos) 0 (.ref it) (.ref D) ce) (compPost (model X.prog X.w) X.A X.xe use Qf (.ref D) s3.heap.objs.size) s4 := by
    refine compLoop_any (fun n s' => ∃ i H', Inv (X.blk s3 H3 scope ce fp) [] (wipe σ (own.map (·.2))) H' s' ∧ tn i s'.heap ∧ (∀ b ∈ fp, H' b = none) ∧ W i n H') ?_ m0 ⟨0, H3, I4, st4, nfp, w0⟩
    rintro n s5 ⟨i, H5, I5, st5, n5, w5⟩
    rcases turn i n H5 w5 with ⟨stop, qq⟩ | ⟨go, Nx, hNx, step⟩
    · have td := T.done (X.blk s3 H3 scope ce fp) rfl rfl rfl hc i [] s5 _ H5 (fun _ _ => False) I5 (stat I5 n5) st5 stop
      refine thnF td fun r s6 hq9 => ?_
      obtain ⟨hr, I6⟩ := hq9
      subst hr
      -- back in the def's context
      have I7 : Inv X pins σ H5 s6 := I3.call' (ch := fp) I6.os I6.base I6.hok I6.bare fun b hb => ⟨(f3 b hb).1.2.2.2.1, (f3 b hb).1.2.1, (f3 b hb).1.2.2.2.2.1, (f3 b hb).1.2.2.2.2.2⟩
      have nC : H5 s3.heap.objs.size = none := by
        have z : H5 ce.locals = none := I6.free
        rw [cL] at z
        exact z
      obtain ⟨m, hn, _⟩ := I6.loc
      have hn : s6.heap.Ns ce.locals m := hn
      rw [cL] at hn
      exact hRR D s3.heap.objs.size s6 m H5 I7 qq hn (I3.fpOk (Nat.le_refl _) nC)
    · have ti := T.item (X.blk s3 H3 scope ce fp) rfl rfl rfl hc i [] s5 _ H5 (fun _ _ => False) I5 (stat I5 n5) st5 go
      refine thnF ti fun r s6 hq9 => ?_
      obtain ⟨u, hr, h6⟩ := hq9
      subst hr
      refine thnF h6 fun _ s7 hq9 => ?_
      obtain ⟨x, H7, I7, r7, y7, st7, n7⟩ := hq9
      have I7' := I7.pinned (stat I7 n7) (T.obj _ _ st7)
      refine thnF (pg _ s7 _ H7 x u _ I7' r7 (step x H7 y7)) fun _ s8 hq9 => ?_
      obtain ⟨σ8, H8, I8, hw8, q8⟩ := hq9
      refine thnF (pt _ s8 σ8 H8 _ I8 q8) fun b s9 hq9 => ?_
      obtain ⟨H9, I9, q9⟩ := hq9
      -- the turn's end
      have fin : ∀ {s' : Shared} {H' : Hp}, Inv (X.blk s3 H3 scope ce fp) ([] ++ pinsAt fp s7.heap) σ8 H' s' → Nx H' → ∃ m, m < n ∧ ∃ i H', Inv (X.blk s3 H3 scope ce fp) [] (wipe σ (own.map (·.2))) H' s' ∧ tn i s'.heap ∧ (∀ b ∈ fp, H' b = none) ∧ W i m H' := fun {s' H'} I' nx => by
        obtain ⟨m', hm, w'⟩ := hNx H' nx
        have pin' : ∀ b ∈ fp, ∀ o, s7.heap.get? b = some o → s'.heap.get? b = some o ∧ H' b = none := fun b hb o e =>
          let z := I'.pin (b, o) (List.mem_append_right _ (List.mem_append_right _ (mem_pinsAt hb e)))
          ⟨z.1, z.2.1⟩
        have hl : (wipe σ (own.map (·.2))).length = σ8.length := by rw [← hw8, wipe_length]
        refine ⟨m', hm, i + 1, H', (I'.unpinned (pins := [])).weak hl (fun j v e => ?_), T.keep _ _ _ st7 fun b hb o e => (pin' b hb o e).1, fun b hb => ?_, w'⟩
        · rw [← hw8] at e
          exact (wipe_some e).1
        · obtain ⟨o, e, _⟩ := T.obj _ _ st7 b hb
          exact (pin' b hb o e).2
      cases b with
      | false =>
        simp only [Bool.false_eq_true, if_false] at q9 ⊢
        exact fin I9 q9
      | true =>
        simp only [if_true] at q9 ⊢
        refine thnF (pe _ s9 σ8 H9 _ I9 q9) fun z s10 hq9 => ?_
        obtain ⟨yv, H10, I10, r10, acc, hD10, hz10, nx⟩ := hq9
        exact app_ok (X := X.blk s3 H3 scope ce fp) I10 hD10 hz10 r10 fun s11 I11 => fin I11 nx
  exact codeAny_compStart_list loop (T.self X.A 0 _ _ _ st4 loop)
/-- as a value -/
theorem pe_lc {elt tg iter : Expr} {ifs : List Expr} {scope : Scope} {own : List (Str × Nat)} {pos : Pos} {wi : TI} {g : TG} {tt : TT} {te : TE} (hc : X.calm = true) (hN : X.N.Nodup) (hi : PI X tg iter wi) (ok : BlkOk X.N X.env.scope scope own)
    (hg : ∀ (s : Shared) (H : Hp) (C : Addr) (cl : List (Str × Addr)) (fp : List Addr), PG (X.blk s H scope (compEnvC scope cl C X.env) fp) tg g) (ht : ∀ (s : Shared) (H : Hp) (C : Addr) (cl : List (Str × Addr)) (fp : List Addr), PTs (X.blk s H scope (compEnvC scope cl C X.env) fp) ifs tt)
    (he : ∀ (s : Shared) (H : Hp) (C : Addr) (cl : List (Str × Addr)) (fp : List Addr), PE (X.blk s H scope (compEnvC scope cl C X.env) fp) elt te) (hs : ∀ x, foldedSetIterable iter X.env x = pure x := by intro _; rfl) :
    PE X (.ListComp elt [⟨tg, iter, ifs, 0⟩] scope pos) (tLc wi g tt te (own.map (·.2))) := by
  intro pins s σ H Q I h
  rw [eval_ListComp]
  refine lc_core hc hN I hi ok hg ht he hs h fun D C s' m H' I' q hn f => ⟨m, hn, fun h'' sb => ?_⟩
  obtain ⟨f0, f1, f2, f3, f4, f5⟩ := f
  exact ⟨.ref D, H', I'.turned (t' := s'.toks) (fun b o hb e => (sb.2 b hb).trans e) f0 f1 f3 f4 f5, rfl, q⟩
/-- name = [..] on one line, the name a local -/
theorem ps_setLc {i : Nat} {y : Str} {py : Pos} {elt tg iter : Expr} {ifs : List Expr} {scope : Scope} {own : List (Str × Nat)} {pos spos : Pos} {wi : TI} {g : TG} {tt : TT} {te : TE} (hc : X.calm = true) (hN : X.N.Nodup) (hy : X.N[i]? = some y) (hyl : X.env.scope.names.lookup y = some .local)
    (hsw : swapsWith (.ListComp elt [⟨tg, iter, ifs, 0⟩] scope pos) (some (.Name y py)) spos.line X.env = pure true) (hi : PI X tg iter wi) (ok : BlkOk X.N X.env.scope scope own)
    (hg : ∀ (s : Shared) (H : Hp) (C : Addr) (cl : List (Str × Addr)) (fp : List Addr), PG (X.blk s H scope (compEnvC scope cl C X.env) fp) tg g) (ht : ∀ (s : Shared) (H : Hp) (C : Addr) (cl : List (Str × Addr)) (fp : List Addr), PTs (X.blk s H scope (compEnvC scope cl C X.env) fp) ifs tt)
    (he : ∀ (s : Shared) (H : Hp) (C : Addr) (cl : List (Str × Addr)) (fp : List Addr), PE (X.blk s H scope (compEnvC scope cl C X.env) fp) elt te) (hs : ∀ x, foldedSetIterable iter X.env x = pure x := by intro _; rfl) :
    PS X (.Assign [.Name y py] (.ListComp elt [⟨tg, iter, ifs, 0⟩] scope pos) spos) (tAsg (tLc wi g tt te (own.map (·.2))) (gName i)) := by
  intro pins s σ H D I h
  rw [exec_Assign_Name_used _ _ _ _ hsw]
  refine wpAny_bind (wpAny_standAt (wpAny_bind ?_))
  show wpAny _ X.A (do let _ ← comprehension (.ListComp elt [⟨tg, iter, ifs, 0⟩] scope pos) scope X.env (firstIterPos [⟨tg, iter, ifs, 0⟩] pos) (newList []) false (eval iter X.env) (some (assign (.Name y py) X.env))) _ _ s
  have h : tLc wi g tt te (own.map (·.2)) σ H (fun x H1 => gName i x σ H1 D.nx) := h
  refine wpAny_bind (thn (lc_core (Qf := fun _ s' => SP X pins D .next s') hc hN I hi ok hg ht he hs h fun L C s' m H' I' q hn f => ?_) fun _ s' hq => wpAny_pure (wpAny_pure hq))
  show wpAny _ _ (assign (.Name y py) X.env (.ref L)) _ _ _
  refine wpAny_assign_Name (store_ok2 (v := V.ref L) I' hN hy (.inl hyl) rfl (fun s2 I2 ⟨a, sb, ha⟩ => ?_) (.inr hyl))
  obtain ⟨f0, f1, f2, f3, f4, f5⟩ := f
  have haC : C ≠ a := by
    rcases ha with z | z
    · rw [z]; exact f1
    · exact fun e => f4 y a z e.symm
  refine ⟨m, hn.sameBut sb haC, fun h3 sb3 => ?_⟩
  exact ⟨_, H', I2.turned (t' := s2.toks) (fun b o hb e => (sb3.2 b hb).trans e) f0 f1 f3 f4 f5, q⟩
theorem sw_true {elt : Expr} {gs : List Comprehension} {scope : Scope} {pos py : Pos} {y : Str} {l : Nat} {env : Env} (hk : env.scope.kind = .function) (hy : env.scope.names.lookup y = some .local) (hl : (py.line == pos.line) = true)
    (ha : (scope.names.any fun (n, k) => n == y && (k == .local || k == .cell)) = false) : swapsWith (.ListComp elt gs scope pos) (some (.Name y py)) l env = pure true := by
  have ky : env.kindOf y = some .local := hy
  have hb : env.blockKind = .function := by unfold Env.blockKind; rw [hk]; rfl
  unfold swapsWith
  simp only [hb, ky, ha, Expr.pos, hl]
  rfl
end

/-! ### the forms one uses -/
/-- over a list that the block leaves as it is -/
theorem lc_list {K : PySem.W.Frag} {a : Addr} {xs : List V} {g : TG} {tt : TT} {te : TE} {vs : List Nat} {σ : St} {H1 : Hp} {D : Addr} {Qd : Hp → Prop} (Pv : Nat → Hp → Prop) (h0 : Pv 0 (upd H1 D (.lst []))) (hl : ∀ i H, i ≤ xs.length → Pv i H → SqL K H a xs)
    (hs : ∀ i x H, xs[i]? = some x → Pv i H → g x (wipe σ vs) H fun σ2 H2 => wipe σ2 vs = wipe σ vs ∧ tt σ2 H2 fun b H3 =>
      if b = true then te σ2 H3 fun y H4 => ∃ acc, H4 D = some (.lst acc) ∧ acc.length < sizeLine ∧ Pv (i + 1) (upd H4 D (.lst (acc ++ [y]))) else Pv (i + 1) H3) (hd : ∀ H, Pv xs.length H → Qd H) :
    ∃ W : Nat → Nat → Hp → Prop, (∃ m, W 0 m (upd H1 D (.lst []))) ∧ ∀ i m H, W i m H →
      ((Itl K a).stop i H ∧ Qd H) ∨ ((Itl K a).go i H ∧ ∃ Nx : Hp → Prop, (∀ H', Nx H' → ∃ m', m' < m ∧ W (i + 1) m' H') ∧ ∀ x H', (Itl K a).yld i H x H' → g x (wipe σ vs) H' fun σ2 H2 => wipe σ2 vs = wipe σ vs ∧ tt σ2 H2 fun b H3 =>
        if b = true then te σ2 H3 fun y H4 => ∃ acc, H4 D = some (.lst acc) ∧ acc.length < sizeLine ∧ Nx (upd H4 D (.lst (acc ++ [y]))) else Nx H3) := by
  refine ⟨fun i m H => m = xs.length - i ∧ i ≤ xs.length ∧ Pv i H, ⟨xs.length, by simp, Nat.zero_le _, h0⟩, ?_⟩
  rintro i m H ⟨rfl, hi, p⟩
  have q := hl i H hi p
  by_cases hlt : i < xs.length
  · refine .inr ⟨⟨xs, xs[i], q, by simp [hlt]⟩, Pv (i + 1), fun H' p' => ⟨xs.length - (i + 1), by omega, rfl, hlt, p'⟩, fun x H' y => ?_⟩
    obtain ⟨e, y⟩ := y
    subst e
    exact hs i x _ (y xs q) p
  · have e : i = xs.length := by omega
    subst e
    exact .inl ⟨⟨xs, q, Nat.le_refl _⟩, hd H p⟩
def blkC (N : List Str) (sc scope : Scope) (own : List (Str × Nat)) : Bool :=
  (match scope.kind with | .function => true | _ => false) && (scope.names.all fun y => decide (scope.names.lookup y.1 = some y.2)) && (own.all fun p => decide (N[p.2]? = some p.1)) &&
    (scope.names.all fun y => match y.2 with
      | .free => (match sc.names.lookup y.1 with | some .cell => true | some .free => true | _ => false)
      | .local => decide (y.1 ∈ own.map (·.1)) || decide (y.1 ∉ N)
      | .cell => decide (y.1 ∈ own.map (·.1)) || decide (y.1 ∉ N)
      | _ => true)
theorem blkOk_by {N : List Str} {sc scope : Scope} {own : List (Str × Nat)} (h : blkC N sc scope own = true) : BlkOk N sc scope own := by
  unfold blkC at h
  simp only [Bool.and_eq_true, List.all_eq_true, decide_eq_true_eq] at h
  obtain ⟨⟨⟨h1, h2⟩, h3⟩, h4⟩ := h
  refine ⟨?_, h2, h3, fun y hy e => ?_, fun y hy e => ?_⟩
  · split at h1
    · assumption
    · cases h1
  · have q := h4 y hy
    simp only [e] at q
    split at q <;> first | exact .inl (by assumption) | exact .inr (by assumption) | cases q
  · have q := h4 y hy
    rcases e with e | e <;> (simp only [e, Bool.or_eq_true, decide_eq_true_eq] at q; exact q)
end L2

namespace L2
open PySem PySem.Spec PyProof.Rows

section
variable {prog : Program} {w : World} {A : Around} {R : Result → Shared → Prop} {s : Shared} {elt t0 i0 t1 i1 : Expr} {ifs0 ifs1 : List Expr} {scope : Scope} {pos : Pos} {it acc : Value} {env : Env}
end

section
variable {X : Cx}
end
end L2

namespace L2
open PySem PySem.Spec PyProof.Rows

/-! ### lists of pairs as tables -/
section
variable {κ : Type} [DecidableEq κ]
end


/-! ### a tracked dict, its keys ints and texts or tuples of these -/
section
variable {P : Program} {w : World} {H : Hp} {h : Heap} {a : Addr}
end

section
variable {X : Cx} {pins : List (Addr × Obj)} {σ : St} {H : Hp} {s : Shared} {a : Addr} {y v : V} {u r : Value} {o : Option V} {A : Around} {E : Value → Shared → Prop}

end

section
variable {X : Cx} {pins : List (Addr × Obj)} {σ : St} {H : Hp} {s : Shared} {a : Addr} {kvs : List (Key × V)} {k : Key} {u : Value} {A : Around} {E : Value → Shared → Prop}
end


/-! ### readings and rules -/
section
variable {X : Cx} {o i e value : Expr} {pos pos' tpos : Pos} {td ty tv : TE}
end


/-! ### displays -/
section
variable {X : Cx} {pos : Pos}
end

/-! ### methods -/
/-- a method call o.m(e) of a built-in, with one argument: what must be seen of the text -/
structure M1 (X : Cx) (o : Expr) (m : Str) (apos : Pos) (e : Expr) (cpos : Pos) : Prop where
  base : attributeBase o m X.env (eval o X.env) = eval o X.env
  few : ((backTo cpos (starEach [e] X.env)).all (fun x => !x.1) && (backToKw cpos (keywordEach [] X.env)).all (fun x => x.1.isSome)
    && decide (([e] : List Expr).length + ([] : List Keyword).length + (if ([] : List Keyword).isEmpty then 0 else 1) < 30)) = true
  line : (apos.endLine == cpos.line) = true
  trees : backTo cpos (starEach [e] X.env) = [(false, eval e X.env)]
structure M2 (X : Cx) (o : Expr) (m : Str) (apos : Pos) (e f : Expr) (cpos : Pos) : Prop where
  base : attributeBase o m X.env (eval o X.env) = eval o X.env
  few : ((backTo cpos (starEach [e, f] X.env)).all (fun x => !x.1) && (backToKw cpos (keywordEach [] X.env)).all (fun x => x.1.isSome)
    && decide (([e, f] : List Expr).length + ([] : List Keyword).length + (if ([] : List Keyword).isEmpty then 0 else 1) < 30)) = true
  line : (apos.endLine == cpos.line) = true
  trees : backTo cpos (starEach [e, f] X.env) = [(false, eval e X.env), (false, eval f X.env)]

section
variable {X : Cx} {pins : List (Addr × Obj)} {σ : St} {H : Hp} {s : Shared} {a : Addr} {y d : V} {u r : Value} {o : Option V} {A : Around} {E : Value → Shared → Prop}
end

section
variable {X : Cx} {o e f : Expr} {apos cpos : Pos} {td ty tx : TE}
end

/-! ### dict(d): a copy -/
section
variable {X : Cx} {pins : List (Addr × Obj)} {σ : St} {H : Hp} {s : Shared} {a : Addr} {kvs : List (Key × V)} {A : Around} {E : Value → Shared → Prop}
end


section
variable {X : Cx} {pins : List (Addr × Obj)} {σ : St} {H : Hp} {s : Shared} {a : Addr} {y : V} {u : Value} {A : Around} {E : Value → Shared → Prop}
end
end L2

namespace L2
open PySem PySem.Spec PyProof.Rows

section
variable {prog : Program} {w : World} {A : Around} {E : Value → Shared → Prop}
end

section
variable {X : Cx}
end
end L2

namespace L2
open PySem PySem.Spec PyProof.Rows

theorem boot_reversed5 : bootBuiltins "reversed" = some (.type "reversed") := by decide +kernel

section
variable {X : Cx} {pins : List (Addr × Obj)} {σ : St} {H : Hp} {s : Shared} {h' : Heap}
/-! ### locking a thing while a statement runs -/
end
section
variable {X : Cx}
/-! ### one iterator just laid -/
theorem pi_one {tg : Expr} {pins : List (Addr × Obj)} {σ : St} {H : Hp} {s : Shared} {R : It → Hp → Prop} {J : It} {tn : Nat → Heap → Prop} {tk : Nat} (I : Inv X pins σ H s) (o : Obj)
    (T : Turn X.prog X.w X.K tg J [s.heap.objs.size] s.heap.objs.size tn) (st : tn 0 (s.heap.push o)) (q : R J H) : PIE X pins σ tg R (.ref s.heap.objs.size) { s with heap := s.heap.push o, toks := tk } := by
  refine ⟨s.heap.objs.size, [s.heap.objs.size], tn, J, H, rfl, I.kept fun b ob e => Heap.get?_push_of_some _ e, T, st, fun b hb => ?_, q⟩
  have e : b = s.heap.objs.size := by simpa using hb
  subst e
  exact I.fpOk (Nat.le_refl _) (I.hok.fresh (Nat.le_refl _))
end

/-! ### range with a step -/
/-- lo, lo + c, .. (n of them) -/
def Itc (lo c : Int) (n : Nat) : It := ⟨fun i _ => i < n, fun i H x H' => H' = H ∧ x = .int (lo + (i : Nat) * c), fun i _ => n ≤ i⟩
theorem turn_rangeC {P : Program} {w : World} {K : PySem.W.Frag} {tg : Expr} (it : Addr) (lo c : Int) (n : Nat) : Turn P w K tg (Itc lo c n) [it] it (fun i h => IsRangeIter h it (lo + (i : Nat) * c) ((n : Int) - (i : Nat)) c) where
  mem := by simp
  obj := fun i h st b hb => by
    have e : b = it := by simpa using hb
    subst e
    exact ⟨_, st, fun v z => nomatch z⟩
  keep := fun i h h' st k => k it (by simp) _ st
  item := by
    intro X hP hw hK hc i pins s σ H E I hf st hg
    subst hP hw hK
    obtain ⟨f0, f1, f2, f3, f4, f5⟩ := hf it (by simp)
    have W := Walks.range (prog := X.prog) (w := X.w) (I.ok.hd hc) it lo c n
    refine W.item i s _ _ hg st fun v h' tk hv st' kk => ?_
    obtain ⟨t, rfl⟩ := hv
    have I1 : Inv X pins σ H { s with heap := h', toks := tk } := I.turned (fun b o hb e => kk b o (by simpa using hb) e) f0 f1 f3 f4 f5
    exact ⟨_, rfl, go_of (s := { s with heap := h', toks := tk }) (n := "range_iterator") st' rfl rfl (by decide) ⟨.int (lo + (i : Nat) * c), H, I1, ⟨t, rfl⟩, ⟨rfl, rfl⟩, st', fun b hb => (hf b hb).1⟩⟩
  done := by
    intro X hP hw hK hc i pins s σ H E I hf st hg
    subst hP hw hK
    obtain ⟨f0, f1, f2, f3, f4, f5⟩ := hf it (by simp)
    exact wpAny_pyNext_range_end (I.ok.hd hc) st (by have : n ≤ i := hg; omega) fun h' eb => ⟨rfl, I.turned (t' := s.toks) (fun b o hb e => eb b o hb e) f0 f1 f3 f4 f5⟩
  self := fun A i s Q E st h => wpAny_pyIter_rangeiter st h
/-- range(i, j, c): small bounds, n items -/
def RgC (i j c : Int) (n : Nat) : Prop := c ≠ 0 ∧ c.natAbs < 1073741824 ∧ Builtin.Range.small i j c = true ∧ Builtin.Range.rangeSize i j c = n
theorem RgC.neg {i j : Int} (ha : -(2 ^ 62) ≤ i) (ha' : i < 2 ^ 62) (hb : -(2 ^ 62) ≤ j) (hb' : j < 2 ^ 62) : RgC i j (-1) (i - j).toNat :=
  ⟨by decide, by decide, PySem.W.small_down ha ha' hb hb', PySem.W.rangeSize_downNat i j⟩
def iRng3 (ta : TA) : TI := fun σ H R => ta σ H fun vs H1 => ∃ (i j c : Int) (n : Nat), vs = [.int i, .int j, .int c] ∧ RgC i j c n ∧ R (Itc i c n) H1
section
variable {X : Cx} {tg : Expr}
theorem pi_range3 {a b c : Expr} {ta : TA} {p pos : Pos} (hg : Gl X "range") (hm : X.mg "range" = none) (ha : PA X [a, b, c] ta)
    (hs : starEach [a, b, c] X.env = (false, eval a X.env) :: starEach [b, c] X.env := by rfl) (hpl : (backTo pos (starEach [b, c] X.env)).any (·.1) = false := by rfl) :
    PI X tg (.Call (.Name "range" p) [a, b, c] [] pos) (iRng3 ta) := by
  intro pins s σ H R I h
  refine Call_ (ld_blt I hg hm boot_range (PyProof.Rows.callWith_type1 (thn (ha pos pins s σ H _ I h) fun us s1 ⟨vs, H1, I1, r1, q1⟩ => ?_) hs hpl))
  obtain ⟨i, j, k, n, e, ⟨c0, c1, c2, c3⟩, q⟩ := q1
  subst e
  cases r1 with
  | cons r rr =>
    cases rr with
    | cons r' rr =>
      cases rr with
      | cons r'' rr =>
        cases rr
        obtain ⟨t, rfl⟩ := r
        obtain ⟨t', rfl⟩ := r'
        obtain ⟨t'', rfl⟩ := r''
        refine call_range_3 c0 ?_ (.inl (PyProof.noPylong_small c1))
        refine wpAny_pyIter_range (IsRange.new ..) c2 ?_
        have I2 : Inv X pins σ H1 { s1 with heap := s1.heap.push { cls := .type "range", data := .fields #[.int i t, .int j t', .int k t''] } } := I1.kept (t' := s1.toks) fun b o e => Heap.get?_push_of_some _ e
        refine pi_one (tk := s1.toks) I2 _ (turn_rangeC _ i k n) ?_ q
        have e1 : i + ((0 : Nat) : Int) * k = i := by simp
        have e2 : (n : Int) - ((0 : Nat) : Int) = Builtin.Range.rangeSize i j k := by rw [c3]; simp
        show IsRangeIter _ _ (i + ((0 : Nat) : Int) * k) ((n : Int) - ((0 : Nat) : Int)) k
        rw [e1, e2]
        exact Heap.get?_push_size _ rfl
end
/-- the turns of a step range, for the for loop -/
theorem for_rangeC {lo c : Int} {n : Nat} {g : TG} {tb : TS} {D : Ends} {σ : St} {H : Hp} (Pv : Nat → St → Hp → Prop) (h0 : Pv 0 σ H)
    (hs : ∀ i σ H, i < n → Pv i σ H → g (.int (lo + (i : Nat) * c)) σ H fun σ2 H2 => tb { D with nx := Pv (i + 1), ct := Pv (i + 1), bk := D.nx } σ2 H2) (hd : ∀ σ H, Pv n σ H → D.nx σ H) :
    ∃ W : Nat → Nat → St → Hp → Prop, (∃ m, W 0 m σ H) ∧ ∀ i m σ H, W i m σ H →
      ((Itc lo c n).stop i H ∧ D.nx σ H) ∨ ((Itc lo c n).go i H ∧ ∃ N : St → Hp → Prop, (∀ σ' H', N σ' H' → ∃ m', m' < m ∧ W (i + 1) m' σ' H') ∧ ∀ x H', (Itc lo c n).yld i H x H' → g x σ H' fun σ2 H2 => tb { D with nx := N, ct := N, bk := D.nx } σ2 H2) := by
  refine ⟨fun i m σ H => m = n - i ∧ i ≤ n ∧ Pv i σ H, ⟨n, by simp, Nat.zero_le _, h0⟩, ?_⟩
  rintro i m σ H ⟨rfl, hi, p⟩
  by_cases hlt : i < n
  · refine .inr ⟨hlt, Pv (i + 1), fun σ' H' p' => ⟨n - (i + 1), by omega, rfl, hlt, p'⟩, fun x H' y => ?_⟩
    obtain ⟨e, y⟩ := y
    subst e y
    exact hs i σ _ hlt p
  · have e : i = n := by omega
    subst e
    exact .inl ⟨Nat.le_refl _, hd σ H p⟩

/-! ### reversed(list) -/
/-- the list at a (n items at the start, which the loop leaves there), from its end -/
def Itv (K : PySem.W.Frag) (a : Addr) (n : Nat) : It :=
  ⟨fun i H => i < n ∧ ∃ (xs : List V) (x : V), SqL K H a xs ∧ xs[n - 1 - i]? = some x, fun i H x H' => H' = H ∧ ∀ xs, SqL K H a xs → xs[n - 1 - i]? = some x, fun i _ => n ≤ i⟩
theorem turn_rev {P : Program} {w : World} {K : PySem.W.Frag} {tg : Expr} (a it : Addr) (n : Nat) : Turn P w K tg (Itv K a n) [it] it (fun i h => i ≤ n ∧ h.IsRevIter it a ((n : Int) - 1 - (i : Nat))) where
  mem := by simp
  obj := fun i h st b hb => by
    have e : b = it := by simpa using hb
    subst e
    obtain ⟨_, o, e, c, d⟩ := st
    exact ⟨o, e, fun v z => by rw [d] at z; cases z⟩
  keep := fun i h h' st k => ⟨st.1, st.2.at fun o e => k it (by simp) o e⟩
  item := by
    intro X hP hw hK hc i pins s σ H E I hf st hg
    subst hP hw hK
    obtain ⟨hin, xs, x, hq, hx⟩ := hg
    obtain ⟨its, rv, p, hz⟩ := I.list hq
    obtain ⟨u, hu, ru⟩ := rv.get hx
    obtain ⟨f0, f1, f2, f3, f4, f5⟩ := hf it (by simp)
    obtain ⟨_, hit⟩ := st
    have e1 : (n : Int) - 1 - ((i : Nat) : Int) = ((n - 1 - i : Nat) : Int) := by omega
    rw [e1] at hit
    refine wpAny_pyNext_rev_item hit p.isList (x := u) (by simpa using hu) fun h' st' sb => ?_
    have e2 : ((n - 1 - i : Nat) : Int) - 1 = (n : Int) - 1 - ((i + 1 : Nat) : Int) := by omega
    rw [e2] at st'
    have I1 : Inv X pins σ H { s with heap := h' } := I.turned (t' := s.toks) (fun b o hb e => (sb.2 b hb).trans e) f0 f1 f3 f4 f5
    obtain ⟨o, e, c, d⟩ := id st'
    exact ⟨u, rfl, go_of (s := { s with heap := h' }) e c d (by decide) ⟨x, H, I1, ru, ⟨rfl, fun ys hy => by rw [I.list_inj hy hq]; exact hx⟩, ⟨hin, st'⟩, fun b hb => (hf b hb).1⟩⟩
  done := by
    intro X hP hw hK hc i pins s σ H E I hf st hg
    subst hP hw hK
    obtain ⟨f0, f1, f2, f3, f4, f5⟩ := hf it (by simp)
    obtain ⟨hin, hit⟩ := st
    have hge : n ≤ i := hg
    have e1 : (n : Int) - 1 - ((i : Nat) : Int) = -1 := by omega
    rw [e1] at hit
    exact wpAny_pyNext_rev_end (I.ok.hd hc) hit fun h' eb => ⟨rfl, I.turned (t' := s.toks) (fun b o hb e => eb b o hb e) f0 f1 f3 f4 f5⟩
  self := fun A i s Q E st h => wpAny_pyIter_revIter st.2 h
def iRev (K : PySem.W.Frag) (ta : TA) : TI := fun σ H R => ta σ H fun vs H1 => ∃ (a : Addr) (xs : List V), vs = [.ref a] ∧ SqL K H1 a xs ∧ R (Itv K a xs.length) H1
section
variable {X : Cx} {tg : Expr}
theorem pi_reversed {e : Expr} {ta : TA} {p pos : Pos} (hg : Gl X "reversed") (hm : X.mg "reversed" = none) (ha : PA X [e] ta) (hs : starEach [e] X.env = [(false, eval e X.env)] := by rfl) : PI X tg (.Call (.Name "reversed" p) [e] [] pos) (iRev X.K ta) := by
  intro pins s σ H R I h
  refine Call_ (ld_blt I hg hm boot_reversed5 (PyProof.Rows.callWith_type1 (thn (ha pos pins s σ H _ I h) fun us s1 ⟨vs, H1, I1, r1, q1⟩ => ?_) hs rfl))
  obtain ⟨a, xs, e, hq, q⟩ := q1
  subst e
  cases r1 with
  | cons r rr =>
    cases rr
    cases r
    obtain ⟨its, rv, p', hz⟩ := I1.list hq
    have hl := rv.length
    have e1 : ((its.toArray.size : Nat) : Int) - 1 = (xs.length : Int) - 1 - ((0 : Nat) : Int) := by simp only [List.size_toArray]; omega
    refine call_reversed_list p'.isList (wpAny_pyIter_revIter (l := a) (i := ((its.toArray.size : Nat) : Int) - 1) ⟨_, Heap.get?_push_size _ rfl, rfl, rfl⟩ ?_)
    refine pi_one (tk := s1.toks) I1 _ (turn_rev a _ xs.length) ⟨Nat.zero_le _, ?_⟩ q
    rw [← e1]
    exact ⟨_, Heap.get?_push_size _ rfl, rfl, rfl⟩
end

/-! ### a str -/
/-! ### a dict's keys: any dict's entries -/
section
variable {prog : Program} {w : World} {A : Around} {E : Value → Shared → Prop} {s : Shared}
end

/-! ### a locked dict -/
section
variable {X : Cx} {pins : List (Addr × Obj)} {σ : St} {H : Hp} {s : Shared} {d : Addr} {o : Obj}
end

section
variable {P : Program} {w : World} {K : PySem.W.Frag} {tg : Expr} {d : Addr} {o : Obj} {es : Array DictEntry} {ep : Nat}
end

/-! ### for k in d, d.keys(), d.values(), d.items() -/
section
variable {X : Cx} {tg e : Expr} {td : TE} {apos cpos : Pos}
end

/-! ### enumerate(list) -/
/-! ### zip(list, list) -/
end L2

section 
namespace Bits
open PySem PyProof.Rows

end Bits
end 

section 
namespace TL
open PySem PySem.Builtin PySem.Builtin.Str PySem.StrLaws

/-! ### the list functions -/
/-! ### the model's split and partition are these -/
/-! ### computing spl and par -/
/-! ### digits -/
/-! ### words: x.split() -/
end TL
end 

namespace L2
open PySem PySem.Spec PyProof.Rows

section
variable {X : Cx} {pins : List (Addr × Obj)} {σ : St} {H : Hp} {s : Shared} {Q : VK}
end

section
variable {X : Cx}

/-! ### of a text alone -/
/-! ### of a text and a text -/
end

section
variable {X : Cx} {o e : Expr} {to te : TE}
end
end L2

namespace L2
open PySem PySem.Spec PyProof.Rows

section
variable {X : Cx}
end

/-! ### slices of a text -/
end L2

namespace Att
open PySem PySem.W PySem.Calls PyProof.Rows

/-! ### the script -/
/-! ### the attachment: holds_open's last premise (the goal 'hc' behind k_head) from a wpAny of the law's body -/
/-! ### rules over ANY heap (no ledger) from facts about the written part K: the library's own take a ledger (News) for what they write -/
section
variable {prog : Program} {w : World} {A : Around} {E : Value → Shared → Prop} {s : Shared} {K : Frag}

/-! the whole heap as the ledger: makes every rule that writes through a ledger a rule over any heap -/
end
end Att

namespace L2
open PySem PySem.Spec PyProof.Rows

end L2

namespace L2
open PySem PySem.Spec PyProof.Rows

end L2


/-! SHORT WORDS over the layer: a def of the text, its body, what a loop and a test want. -/
namespace L2
open PySem PySem.Spec PyProof.Rows

/-! ### the text by places -/
/-- the j-th statement of a class's body -/
def inClass (s : Stmt) (j : Nat) : Stmt := match s with
  | .ClassDef _ _ _ body _ _ _ _ _ _ _ => body.getD j (.Pass ⟨0, 0, 0, 0⟩)
  | _ => .Pass ⟨0, 0, 0, 0⟩
def defArgs (s : Stmt) : Arguments := match s with
  | .FunctionDef _ a _ _ _ _ _ _ _ _ => a
  | _ => { posonlyargs := [], args := [], vararg := none, kwonlyargs := [], kw_defaults := [], kwarg := none, defaults := [] }
def defBody (s : Stmt) : List Stmt := match s with
  | .FunctionDef _ _ b _ _ _ _ _ _ _ => b
  | _ => []
def defScope (s : Stmt) : Scope := match s with
  | .FunctionDef _ _ _ _ _ _ sc _ _ _ => sc
  | _ => { kind := .function, names := [], isGenerator := false, isCoroutine := false }

/-! ### no exception leaves a def -/
abbrev CX0 : CXT := fun _ _ _ _ _ _ => False
abbrev E0 : XK := fun _ _ _ => False
theorem pass0 {X : Cx} : Passes CX0 X E0 := fun _ _ _ _ _ _ _ h => h.elim

/-! ### a def (or method) of the text as it stands behind the top -/
structure Fun (K : PySem.W.Frag) (x qual : Str) (st : Stmt) (f : Addr) (fd : FuncData) : Prop where
  ex : ∃ (oc : Value) (od : Option Addr) (kV doc pm : Value) (an : Option Addr) (cdv ct : Value) (osl : Array (Option Value)),
    fd = PySem.W.fnOf x qual (defArgs st) (defBody st) (defScope st) .none kV doc pm an cdv ct ∧ K.lookup f = some ⟨oc, od, .func fd, osl⟩ ∧ PySem.W.codeIn K cdv qual = true
  kp : PySem.W.keepIn K (.ref f) = true
section
variable {P : Program} {w : World} {K : PySem.W.Frag} {mg : Str → Option Value} {base : Heap}
/-- THE RULE for a def: its body as a term of rules, and the reading of that term -/
theorem Fun.ok {x qual : Str} {st : Stmt} {f : Addr} {fd : FuncData} {N ps : List Str} {k : Nat} {sp : Sp} (F : Fun K x qual st f fd) (S : FnScope N ps (defScope st)) (len : ∀ vs H Q E, sp vs H Q E → vs.length = ps.length)
    (hbody : ∀ (cdv : Value) (A : Around) (outer : List Env) (s : Shared) (H : Hp) (vs : List V) (Q : VK) (E : XK), Room k (A.deeper (envOfC qual (defScope st) s.heap.objs.size f cdv)) → sp vs H Q E →
      ∃ t, PSs (cxOf CX0 P w K mg base N qual (defScope st) f cdv A outer s H E).nox (defBody st) t ∧ t { nx := fun _ H' => Q .non H', rt := Q } (start N vs) H) : FnOk P w K mg base CX0 (k + 1) f fd ps sp := by
  obtain ⟨oc, od, kV, doc, pm, an, cdv, ct, osl, rfl, lk, hcd⟩ := F.ex
  refine fn_of lk hcd S len fun A outer s H vs Q E hr hsp => ?_
  obtain ⟨t, h, q⟩ := hbody cdv A outer s H vs Q E hr hsp
  exact ⟨t, h.nox, q⟩
/-- how its arguments bind (no defaults): h is «fun _ _ _ _ _ _ us hl => match us, hl with | [_, _], _ => rfl», one _ a parameter -/
theorem Fun.binds {x qual : Str} {st : Stmt} {f : Addr} {fd : FuncData} {ps : List Str} (F : Fun K x qual st f fd)
    (h : ∀ (kV doc pm : Value) (an : Option Addr) (cdv ct : Value) (us : List Value), us.length = ps.length → bindArgs (PySem.W.fnOf x qual (defArgs st) (defBody st) (defScope st) .none kV doc pm an cdv ct) ⟨us, []⟩ = pure (ps.zip us)) : Binds K fd ps [] := by
  obtain ⟨oc, od, kV, doc, pm, an, cdv, ct, osl, rfl, lk, hcd⟩ := F.ex
  exact .all (h kV doc pm an cdv ct)
theorem fun_mk {x qual : Str} {st : Stmt} {f : Addr} {oc : Value} {od an : Option Addr} {osl : Array (Option Value)} {kV doc pm cdv ct : Value} (l : K.lookup f = some ⟨oc, od, .func (PySem.W.fnOf x qual (defArgs st) (defBody st) (defScope st) .none kV doc pm an cdv ct), osl⟩)
    (c : PySem.W.codeIn K cdv qual = true) (k : PySem.W.keepIn K (.ref f) = true) : Fun K x qual st f (PySem.W.fnOf x qual (defArgs st) (defBody st) (defScope st) .none kV doc pm an cdv ct) := ⟨⟨oc, od, kV, doc, pm, an, cdv, ct, osl, rfl, l, c⟩, k⟩
end
/-! ### expressions in short: the name that stands in the i-th slot -/
section
variable {X : Cx}
theorem pv (i : Nat) {x : Str} {pos : Pos} (hN : X.N[i]? = some x := by rfl) (hv : Vis X.env.scope x := by first | exact Or.inl rfl | exact Or.inr (Or.inl rfl) | exact Or.inr (Or.inr rfl)) (hd : (x == ("__debug__" : Str)) = false := by decide)
    (hcd : (x == ("__classdict__" : Str)) = false := by decide) : PE X (.Name x pos) (tVar i) := pe_var hN hv hd hcd
end

/-! ### tests -/
theorem iteF {A B : Prop} (h : B) : if false = true then A else B := by
  rw [if_neg Bool.false_ne_true]
  exact h
theorem iteT {A B : Prop} (h : A) : if true = true then A else B := by
  rw [if_pos rfl]
  exact h
theorem ite2 {c A B : Prop} [Decidable c] (h1 : c → A) (h2 : ¬ c → B) : if c then A else B := by
  by_cases h : c
  · rw [if_pos h]
    exact h1 h
  · rw [if_neg h]
    exact h2 h
/-! ### heaps -/
/-- all that was tracked is as it was -/
def Same (H H' : Hp) : Prop := ∀ b o, H b = some o → H' b = some o
theorem Same.refl (H : Hp) : Same H H := fun _ _ h => h
theorem Same.trans {H H1 H2 : Hp} (a : Same H H1) (b : Same H1 H2) : Same H H2 := fun c o h => b c o (a c o h)
theorem Same.free {H H' : Hp} (e : Same H H') {l : Addr} (h : H' l = Option.none) : H l = Option.none := by
  cases q : H l with
  | none => rfl
  | some o =>
    rw [e l o q] at h
    cases h
theorem Same.seq {K : PySem.W.Frag} {H H' : Hp} {a : Addr} {xs : List V} (e : Same H H') (h : SqL K H a xs) : SqL K H' a xs := by
  rcases h with (h | ⟨o, h⟩) | h
  · exact .inl (.inl (e _ _ h))
  · exact .inl (.inr ⟨o, e _ _ h⟩)
  · exact .inr h

/-! ### a dict's pairs: keys that differ -/
section
variable {κ : Type} [DecidableEq κ]
end
/-! ### lists -/
end L2
end
section
set_option Elab.async false
set_option autoImplicit false
set_option linter.all false
namespace My
open PySem

/-! ## tables whose places rise -/
abbrev Rise (l : List Nat) : Prop := l.Pairwise (· < ·)

theorem getD_list (xs : Array Nat) (i d : Nat) : xs.getD i d = xs.toList.getD i d := by
  rw [List.getD_eq_getElem?_getD, Array.getElem?_toList, Array.getD_eq_getD_getElem?]
theorem rise_le {l : List Nat} (h : Rise l) {i j : Nat} (hij : i ≤ j) (hj : j < l.length) : l[i]'(by omega) ≤ l[j] := by
  by_cases e : i = j
  · subst e; exact Nat.le_refl _
  · exact Nat.le_of_lt (List.pairwise_iff_getElem.mp h i j (by omega) hj (by omega))

/-- where j would stand -/
structure Stands (l : List Nat) (j r : Nat) : Prop where
  le : r ≤ l.length
  lo : ∀ i (h : i < l.length), i < r → l[i] < j
  hi : ∀ i (h : i < l.length), r ≤ i → j ≤ l[i]
theorem go_stands (xs : Array Nat) (j : Nat) (hr : Rise xs.toList) : ∀ (fuel lo hi : Nat), hi - lo ≤ fuel → lo ≤ hi → hi ≤ xs.toList.length →
    (∀ i (h : i < xs.toList.length), i < lo → xs.toList[i] < j) → (∀ i (h : i < xs.toList.length), hi ≤ i → j ≤ xs.toList[i]) → Stands xs.toList j (SetTable.below.go xs j fuel lo hi)
  | 0, lo, hi, h1, h2, h3, h4, h5 => by
    have e : lo = hi := by omega
    subst e
    exact ⟨h3, h4, h5⟩
  | fuel + 1, lo, hi, h1, h2, h3, h4, h5 => by
    unfold SetTable.below.go
    by_cases e : lo < hi
    · rw [if_pos e]
      simp only []
      have hm : (lo + hi) / 2 < xs.toList.length := by omega
      have e2 : xs.getD ((lo + hi) / 2) j = xs.toList[(lo + hi) / 2] := by
        rw [getD_list, List.getD_eq_getElem?_getD, List.getElem?_eq_getElem hm]; rfl
      by_cases e3 : xs.getD ((lo + hi) / 2) j < j
      · rw [if_pos e3]
        refine go_stands xs j hr fuel _ _ (by omega) (by omega) h3 (fun i h hi' => ?_) h5
        exact Nat.lt_of_le_of_lt (rise_le hr (by omega) hm) (by rw [← e2]; exact e3)
      · rw [if_neg e3]
        refine go_stands xs j hr fuel _ _ (by omega) (by omega) (by omega) h4 (fun i h hi' => ?_)
        exact Nat.le_trans (by rw [← e2]; omega) (rise_le hr hi' h)
    · rw [if_neg e]
      have e : lo = hi := by omega
      subst e
      exact ⟨h3, h4, h5⟩
theorem below_stands {xs : Array Nat} (hr : Rise xs.toList) (j : Nat) : Stands xs.toList j (SetTable.below xs j) := by
  unfold SetTable.below
  refine go_stands xs j hr _ 0 xs.size (by omega) (Nat.zero_le _) (by simp) (fun i _ h => by omega) (fun i h h' => ?_)
  have : i < xs.size := by simpa using h
  omega
theorem Stands.uniq {l : List Nat} {j r q : Nat} (a : Stands l j r) (b : Stands l j q) : r = q := by
  rcases Nat.lt_trichotomy r q with h | h | h
  · have hl : r < l.length := by have := b.le; omega
    have := a.hi r hl (Nat.le_refl _)
    have := b.lo r hl h
    omega
  · exact h
  · have hl : q < l.length := by have := a.le; omega
    have := b.hi q hl (Nat.le_refl _)
    have := a.lo q hl h
    omega
/-- the place behind the i-th -/
theorem below_next {xs : Array Nat} (hr : Rise xs.toList) {i j : Nat} (h : xs[i]? = some j) : SetTable.below xs (j + 1) = i + 1 := by
  have h' : xs.toList[i]? = some j := by rw [Array.getElem?_toList]; exact h
  obtain ⟨hl, e⟩ := List.getElem?_eq_some_iff.mp h'
  refine (below_stands hr (j + 1)).uniq ⟨by omega, fun m hm hlt => ?_, fun m hm hge => ?_⟩
  · have := rise_le hr (show m ≤ i by omega) hl
    omega
  · have := List.pairwise_iff_getElem.mp hr i m hl hm (by omega)
    omega
theorem below_zero {xs : Array Nat} (hr : Rise xs.toList) : SetTable.below xs 0 = 0 :=
  (below_stands hr 0).uniq ⟨Nat.zero_le _, fun i _ h => by omega, fun i _ _ => Nat.zero_le _⟩
theorem below_here {xs : Array Nat} (hr : Rise xs.toList) {j : Nat} (h : j ∈ xs.toList) : xs[SetTable.below xs j]? = some j := by
  obtain ⟨i, hi⟩ := List.getElem?_of_mem h
  obtain ⟨hl, e⟩ := List.getElem?_eq_some_iff.mp hi
  have : SetTable.below xs j = i := (below_stands hr j).uniq ⟨by omega, fun m hm hlt => by
    have := List.pairwise_iff_getElem.mp hr m i hm hl hlt
    omega, fun m hm hge => by
    have := rise_le hr hge hm
    omega⟩
  rw [this, ← Array.getElem?_toList]
  exact hi
theorem rise_insert {xs : Array Nat} (hr : Rise xs.toList) {j : Nat} (h : j ∉ xs.toList) : Rise (SetTable.insertAt xs (SetTable.below xs j) j).toList := by
  have st := below_stands hr j
  rw [SetTable.toList_insertAt]
  generalize SetTable.below xs j = r at st
  refine List.pairwise_append.mpr ⟨hr.sublist (List.take_sublist _ _), List.pairwise_cons.mpr ⟨fun y hy => ?_, hr.sublist (List.drop_sublist _ _)⟩, fun x hx y hy => ?_⟩
  · obtain ⟨i, hi⟩ := List.getElem?_of_mem hy
    rw [List.getElem?_drop] at hi
    obtain ⟨hl, e⟩ := List.getElem?_eq_some_iff.mp hi
    have h1 := st.hi _ hl (by omega)
    have h2 : y ∈ xs.toList := List.mem_of_mem_drop hy
    have h3 : j ≠ y := fun q => h (by rw [q]; exact h2)
    omega
  · have hx' : x < j := by
      obtain ⟨i, hi⟩ := List.getElem?_of_mem hx
      rw [List.getElem?_take] at hi
      split at hi
      · obtain ⟨hl, e⟩ := List.getElem?_eq_some_iff.mp hi
        have := st.lo i hl (by assumption)
        omega
      · cases hi
    rcases List.mem_cons.mp hy with rfl | hy
    · exact hx'
    · obtain ⟨i, hi⟩ := List.getElem?_of_mem hy
      rw [List.getElem?_drop] at hi
      obtain ⟨hl, e⟩ := List.getElem?_eq_some_iff.mp hi
      have h1 := st.hi _ hl (by omega)
      omega

/-- a table without dummies, its places rising -/
structure Tidy (t : SetTable) : Prop where
  rise : Rise t.place.toList
  clean : t.dummies = #[]
theorem tidy_fresh (f m : Nat) (b : Bool) : Tidy (.fresh f m b) := ⟨by simp [SetTable.fresh, Rise], rfl⟩
theorem tidy_standIn (t : SetTable) (n : Nat) : Tidy (t.standIn n) := ⟨by simp [SetTable.standIn, Rise, List.pairwise_lt_range], rfl⟩
theorem has_nil (j : Nat) : SetTable.has #[] j = false := by
  unfold SetTable.has
  simp
theorem tidy_put {t : SetTable} (h : Tidy t) {j : Nat} (hj : j ∉ t.place.toList) : Tidy (t.put j).1 := by
  refine ⟨rise_insert h.rise hj, ?_⟩
  show (if SetTable.has t.dummies j then _ else t.dummies) = #[]
  rw [h.clean, has_nil]
  rfl
theorem go_empty {t : SetTable} (h : Tidy t) (f : Nat → Int) (x : Int) : ∀ (fuel : Nat) (p : SetTable.Probe) (j : Nat) (d : Option Nat), p.dummy = none → SetTable.probe.go t f x fuel p = some (.empty j d) → j ∉ t.place.toList ∧ d = none
  | 0, _, _, _, _, e => by cases e
  | fuel + 1, p, j, d, hp, e => by
    unfold SetTable.probe.go at e
    unfold SetTable.slot at e
    simp only [] at e
    by_cases e1 : (t.place[SetTable.below t.place p.j]? == some p.j) = true
    · rw [if_pos e1] at e
      simp only [] at e
      split at e
      · cases e
      · refine go_empty h f x fuel _ j d ?_ e
        unfold SetTable.advance
        split <;> exact hp
    · rw [if_neg e1, h.clean, has_nil] at e
      simp only [Bool.false_eq_true, if_false] at e
      cases e
      refine ⟨fun m => e1 ?_, hp⟩
      rw [below_here h.rise m]
      simp
theorem tidy_layNew {t : SetTable} (ht : Tidy t) (es : Array (Int × Value)) (h : Int) (x : Value) : Tidy (layNew t es h x).2.1 ∧ (layNew t es h x).2.1.led = t.led := by
  unfold layNew
  cases e : t.freeSlot h with
  | none => exact ⟨tidy_standIn _ _, rfl⟩
  | some q =>
    obtain ⟨slot, b⟩ := q
    simp only []
    have hs : slot ∉ t.place.toList := by
      unfold SetTable.freeSlot SetTable.probe at e
      split at e
      · rename_i j d e2
        obtain ⟨h1, h2⟩ := go_empty ht _ _ _ _ _ _ rfl e2
        subst h2
        cases e
        exact h1
      · cases e
    unfold SetTable.orStandIn
    split
    · exact ⟨tidy_put ht hs, rfl⟩
    · exact ⟨tidy_standIn _ _, rfl⟩
theorem rise_filterMap (f : Nat → Option Nat) (n : Nat) : Rise (((List.range n).filterMap fun j => (f j).map (j, ·)).map (·.1)) := by
  rw [List.map_filterMap]
  have e : (List.range n).filterMap (fun x => Option.map (fun x => x.fst) (Option.map (fun x_1 => (x, x_1)) (f x))) = (List.range n).filter fun j => (f j).isSome := by
    generalize List.range n = l
    induction l with
    | nil => rfl
    | cons a l ih =>
      rw [List.filterMap_cons, List.filter_cons]
      cases f a with
      | none => simpa using ih
      | some b => simpa using ih
  rw [e]
  exact List.pairwise_lt_range.filter _
theorem tidy_laid {mask finger moves : Nat} {led plain : Bool} {hs : Array Int} {q : SetTable × Array Nat} (h : SetTable.laid mask finger moves led plain hs = some q) : Tidy q.1 ∧ q.1.led = led := by
  unfold SetTable.laid at h
  cases e : SetTable.layClean mask hs with
  | none => rw [e] at h; cases h
  | some owner =>
    rw [e] at h
    cases h
    exact ⟨⟨by simpa using rise_filterMap (fun j => owner.getD j none) (mask + 1), rfl⟩, rfl⟩
theorem tidy_relayAll {t : SetTable} (es : Array (Int × Value)) (n : Nat) : Tidy (relayAll t es n).2.1 ∧ (relayAll t es n).2.1.led = t.led := by
  unfold relayAll
  split
  · rename_i t' order e
    simp only []
    split
    · exact tidy_laid (q := (t', order)) e
    · exact ⟨tidy_standIn _ _, rfl⟩
  · exact ⟨tidy_standIn _ _, rfl⟩
end My
end
section
set_option Elab.async false
set_option autoImplicit false
set_option linter.all false
namespace My
open PySem

def keyI (e : Int × Value) : Int := match e.2 with
  | .int k _ => k
  | _ => 0
/-- whether sets follow the text's order in this world -/
def byT (w : World) : Bool := w.params.followText "set-order"
/-- a set of whole numbers at a, as its object stands -/
structure SetAt (w : World) (h : Heap) (a : Addr) (o : Obj) (es : Array (Int × Value)) (ep : Nat) (t : SetTable) : Prop where
  ho : h.get? a = some o
  ex : o.ExactSet
  hd : o.data = .set es ep t
  eints : ∀ e ∈ es.toList, ∃ k tk, e = (hashInt k, Value.int k tk)
  nd : (es.toList.map keyI).Nodup
  few : es.size < scanBound
  fits : t.fits es.size = true
  tidy : Tidy t
  led : t.led = !byT w
/-- a set of just these numbers -/
def SetN (w : World) (h : Heap) (a : Addr) (ns : List Int) : Prop := ∃ o es ep t, SetAt w h a o es ep t ∧ (es.toList.map keyI).Perm ns
section
variable {prog : Program} {w : World} {A : Around} {E : Value → Shared → Prop} {s : Shared} {h h' : Heap} {a : Addr} {o : Obj} {es : Array (Int × Value)} {ep : Nat} {t : SetTable} {ns : List Int}
theorem SetAt.elems (S : SetAt w h a o es ep t) : ElemsOf (intKind prog w) es.toList := fun e he => by
  obtain ⟨k, tk, rfl⟩ := S.eints e he
  exact ⟨⟨k, by show Value.isInt k (.int k tk) = true; simp [Value.isInt], rfl⟩, rfl⟩
theorem SetAt.mem (S : SetAt w h a o es ep t) (k : Int) : k ∈ es.toList.map keyI ↔ ∃ e ∈ es.toList, (intKind prog w).is k e.2 = true := by
  rw [List.mem_map]
  constructor
  · rintro ⟨e, he, rfl⟩
    obtain ⟨k, tk, rfl⟩ := S.eints e he
    exact ⟨_, he, by show Value.isInt k (.int k tk) = true; simp [Value.isInt]⟩
  · rintro ⟨e, he, hk⟩
    refine ⟨e, he, ?_⟩
    obtain ⟨tk, e2⟩ := Value.isInt_shape (k := k) (v := e.2) hk
    unfold keyI
    rw [e2]
theorem SetAt.setOf (S : SetAt w h a o es ep t) (hp : (es.toList.map keyI).Perm ns) : h.SetOf (intKind prog w) a (fun k => ns.any (· == k)) ns.length := by
  refine ⟨o, es, ep, t, S.ho, S.ex, S.hd, S.elems, fun k => ?_, S.few, S.fits, ?_⟩
  · rw [List.any_eq_true, ← S.mem (prog := prog) k, hp.mem_iff]
    constructor
    · rintro ⟨x, hx, e⟩
      have e' : x = k := by simpa using e
      subst e'; exact hx
    · exact fun hk => ⟨k, hk, by simp⟩
  · have := hp.length_eq
    rw [List.length_map, Array.length_toList] at this
    exact this
theorem SetN.setOf (S : SetN w h a ns) : h.SetOf (intKind prog w) a (fun k => ns.any (· == k)) ns.length := by
  obtain ⟨o, es, ep, t, S, hp⟩ := S
  exact S.setOf hp
theorem SetAt.at' (S : SetAt w h a o es ep t) (k : ∀ u, h.get? a = some u → h'.get? a = some u) : SetAt w h' a o es ep t := { S with ho := k _ S.ho }
theorem SetN.at' (S : SetN w h a ns) (k : ∀ u, h.get? a = some u → h'.get? a = some u) : SetN w h' a ns := by
  obtain ⟨o, es, ep, t, S, hp⟩ := S
  exact ⟨o, es, ep, t, S.at' k, hp⟩
theorem SetAt.put (S : SetAt w h a o es ep t) {es' : Array (Int × Value)} {t' : SetTable} (hi : ∀ e ∈ es'.toList, ∃ k tk, e = (hashInt k, Value.int k tk)) (hn : (es'.toList.map keyI).Nodup) (hb : es'.size < scanBound) (hf : t'.fits es'.size = true) (ht : Tidy t') (hl : t'.led = !byT w) :
    SetAt w (h.update a (Obj.putSet es' t')) a { o with data := .set es' (ep + 1) t' } es' (ep + 1) t' := by
  refine ⟨?_, S.ex, rfl, hi, hn, hb, hf, ht, hl⟩
  have e := Heap.get?_update_self (Obj.putSet es' t') S.ho (by rw [putSet_of es' t' S.hd]; rfl)
  rw [putSet_of es' t' S.hd] at e
  exact e
theorem fits_off {t : SetTable} {n : Nat} (h : t.fits n = true) : ({ t with plain := false } : SetTable).fits n = true := by
  cases t; exact h
/-- a number put in: by scan -/
theorem add_ok {k : Int} {tk : Tok} {Q : Bool → Shared → Prop} (S : SetAt w s.heap a o es ep t) (hroom : es.size + 1 < scanBound)
    (h1 : k ∈ es.toList.map keyI → Q false s)
    (h2 : k ∉ es.toList.map keyI → ∀ h' o' es' ep' t', Heap.SameBut a s.heap h' → SetAt w h' a o' es' ep' t' → (es'.toList.map keyI).Perm (es.toList.map keyI ++ [k]) → Q true { s with heap := h' }) :
    wpAny (model prog w) A (setAddHashed a (.int k tk) (hashInt k)) Q E s := by
  have hel : ElemsOf (intKind prog w) es.toList := S.elems
  have hkey : (intKind prog w).is k (.int k tk) = true := by show Value.isInt k (.int k tk) = true; simp [Value.isInt]
  have gw : ∀ (b : Bool) (s₁ : Shared) (Q' : Unit → Shared → Prop), Q' () s₁ → wpAny (model prog w) A (match b with | true => rule "set.scan.the-table-gave-way" | false => pure ()) Q' E s₁ := fun b s₁ Q' q => by
    cases b <;> first | exact wpAny_pure q | exact wpAny_rule q
  unfold setAddHashed setAddHashedIn
  refine wpAny_holding (wpAny_bind (wpAny_setState_of S.ho S.hd S.fits ?_))
  dsimp only
  rw [byScan_of (knd := intKind prog w) rfl S.few hel]
  simp only [↓reduceIte]
  unfold setAddByScan
  refine wpAny_bind (wpAny_bind (wpAny_rule (wpAny_bind ?_)))
  refine wpAny_setScan_of (knd := intKind prog w) hkey S.ho S.hd S.fits hel ?_
  cases hr : List.findIdx? (fun e => (intKind prog w).is k e.2) es.toList with
  | some j =>
    obtain ⟨hj, hpj, _⟩ := List.findIdx?_eq_some_iff_getElem.mp hr
    exact wpAny_pure (wpAny_pure (h1 ((S.mem (prog := prog) k).mpr ⟨_, List.getElem_mem hj, hpj⟩)))
  | none =>
    have hno : k ∉ es.toList.map keyI := fun q => by
      obtain ⟨e, he, hp⟩ := (S.mem (prog := prog) k).mp q
      have z := List.findIdx?_eq_none_iff.mp hr e he
      rw [hp] at z
      cases z
    have hperm := layNew_perm t es (hashInt k) (.int k tk)
    have hfits := layNew_fits t es (hashInt k) (.int k tk)
    have htidy := tidy_layNew S.tidy es (hashInt k) (.int k tk)
    dsimp only
    have eL : (intKind prog w).hash k = hashInt k := rfl
    generalize layNew t es (hashInt k) (.int k tk) = L at hperm hfits htidy ⊢
    obtain ⟨es1, t1, wd, gave⟩ := L
    dsimp only at hperm hfits htidy ⊢
    rw [Array.toList_push] at hperm
    have hi1 : ∀ e ∈ es1.toList, ∃ k tk, e = (hashInt k, Value.int k tk) := fun e he => by
      rcases List.mem_append.mp (hperm.mem_iff.mp he) with z | z
      · exact S.eints e z
      · exact ⟨k, tk, List.mem_singleton.mp z⟩
    have hp1 : (es1.toList.map keyI).Perm (es.toList.map keyI ++ [k]) := by
      have := hperm.map keyI
      rw [List.map_append] at this
      exact this
    have hn1 : (es1.toList.map keyI).Nodup := by
      rw [hp1.nodup_iff]
      refine List.nodup_append.mpr ⟨S.nd, by simp, fun x hx y hy => ?_⟩
      rw [List.mem_singleton.mp hy]
      exact fun q => hno (q ▸ hx)
    have hsz : es1.size = es.size + 1 := by
      have := hperm.length_eq
      simpa using this
    refine wpAny_bind (gw _ _ _ ?_)
    have fin : ∀ (t2 : SetTable) (R : Option Bool → Shared → Prop), t2.fits es1.size = true → Tidy t2 → t2.led = (!byT w) → (∀ h' o' es' ep' t', Heap.SameBut a s.heap h' → SetAt w h' a o' es' ep' t' → (es'.toList.map keyI).Perm (es.toList.map keyI ++ [k]) → R (some true) { s with heap := h' }) → wpAny (model prog w) A (do
        storeSet a es1 t2
        if (!wd && t2.tooFull) = true then do
            (match (relayAll t2 es1 (SetTable.grown es1.size)).2.2 with | true => rule "set.scan.the-table-gave-way" | false => pure ())
            storeSet a (relayAll t2 es1 (SetTable.grown es1.size)).1 (relayAll t2 es1 (SetTable.grown es1.size)).2.1
            pure (some true)
          else pure (some true)) R E s := fun t2 R f2 ti2 l2 hR => by
      have S1 := S.put hi1 hn1 (by omega) f2 ti2 l2
      refine wpAny_bind (wpAny_storeSet_of S.ho S.hd ?_ (fits_of_scanBound (by omega)))
      have sb := Heap.SameBut.update s.heap a (Obj.putSet es1 t2)
      split
      · have rp := relayAll_perm t2 es1 (SetTable.grown es1.size)
        have rf := relayAll_fits t2 es1 (SetTable.grown es1.size)
        have rt := tidy_relayAll (t := t2) es1 (SetTable.grown es1.size)
        generalize relayAll t2 es1 (SetTable.grown es1.size) = R at rp rf rt ⊢
        obtain ⟨es2, t3, g2⟩ := R
        dsimp only at rp rf rt ⊢
        have hsz2 : es2.size = es1.size := by simpa using rp.length_eq
        have hp2 : (es2.toList.map keyI).Perm (es.toList.map keyI ++ [k]) := (rp.map keyI).trans hp1
        refine wpAny_bind (gw _ _ _ (wpAny_bind ?_))
        refine wpAny_storeSet_of S1.ho S1.hd ?_ (fits_of_scanBound (by omega))
        have S2 := S1.put (es' := es2) (t' := t3) (fun e he => hi1 e (rp.mem_iff.mp he)) (by rw [(rp.map keyI).nodup_iff]; exact hn1) (by omega) rf rt.1 (rt.2.trans l2)
        exact wpAny_pure (hR _ _ _ _ _ (sb.trans (Heap.SameBut.update _ a _)) S2 hp2)
      · exact wpAny_pure (hR _ _ _ _ _ sb S1 hp1)
    split
    · refine wpAny_bind ?_
      rw [hashByValue_scannable 8 (x := .int k tk) rfl]
      refine wpAny_pure ?_
      refine fin t1 _ hfits htidy.1 (htidy.2.trans S.led) fun h' o' es' ep' t' sb S' p' => ?_
      exact wpAny_pure (h2 hno h' o' es' ep' t' sb S' p')
    · refine wpAny_bind (wpAny_pure ?_)
      simp only [↓reduceIte]
      refine fin t1 _ hfits htidy.1 (htidy.2.trans S.led) fun h' o' es' ep' t' sb S' p' => ?_
      exact wpAny_pure (h2 hno h' o' es' ep' t' sb S' p')
end
end My
end
section
set_option Elab.async false
set_option autoImplicit false
set_option linter.all false
set_option maxRecDepth 100000
namespace My
open PySem

theorem slot_setit_next : Slot "set_iterator" "__next__" "set_iterator.__next__" :=
  .of (owner := "set_iterator") (n := "__next__") (by rw [typeLookup_type, builtinLookup_eq_fast]; kernel_rfl) (by decide +kernel) (by decide +kernel) (by decide +kernel)
    (by first | exact .inl (by decide +kernel) | exact .inr (by decide +kernel)) (by rw [isSubtype_type]; kernel_rfl)
theorem slot_setit_iter : Slot "set_iterator" "__iter__" "set_iterator.__iter__" :=
  .of (owner := "set_iterator") (n := "__iter__") (by rw [typeLookup_type, builtinLookup_eq_fast]; kernel_rfl) (by decide +kernel) (by decide +kernel) (by decide +kernel)
    (by first | exact .inl (by decide +kernel) | exact .inr (by decide +kernel)) (by rw [isSubtype_type]; kernel_rfl)
theorem entry_setit_next : entryFor table "set_iterator.__next__" = some Builtin.«set_iterator.__next__» := entryFor_of_tree (by kernel_rfl)
theorem entry_setit_iter : entryFor table "set_iterator.__iter__" = some Builtin.«dict_keyiterator.__iter__» :=
  entryFor_alias (id' := "dict_keyiterator.__iter__") (by kernel_rfl) rfl (by decide +kernel) (by kernel_rfl)
theorem entry_set_iter : entryFor table "set.__iter__" = some Builtin.«frozenset.__iter__» :=
  entryFor_alias (id' := "frozenset.__iter__") (by kernel_rfl) rfl (by decide +kernel) (by kernel_rfl)
theorem owner_setit : Manifest.owners.lookup (String.ofList ['r', 'o', 't', 'a', 'r', 'e', 't', 'i', '_', 't', 'e', 's'].reverse) = some Manifest.sig_set_iterator := by kernel_rfl
theorem args_setit_next (a : Value) : argsOk "set_iterator.__next__" ⟨[a], []⟩ := by
  unfold argsOk; rw [signature?_of (id := "set_iterator.__next__") (n := ['_', '_', 't', 'x', 'e', 'n', '_', '_']) (o := ['r', 'o', 't', 'a', 'r', 'e', 't', 'i', '_', 't', 'e', 's']) (by kernel_rfl) owner_setit]; kernel_rfl
theorem args_setit_iter (a : Value) : argsOk "set_iterator.__iter__" ⟨[a], []⟩ := by
  unfold argsOk; rw [signature?_of (id := "set_iterator.__iter__") (n := ['_', '_', 'r', 'e', 't', 'i', '_', '_']) (o := ['r', 'o', 't', 'a', 'r', 'e', 't', 'i', '_', 't', 'e', 's']) (by kernel_rfl) owner_setit]; kernel_rfl

/-! ## the order in which a set is walked -/
theorem out_perm {α : Type} {l : List α} {i : Nat} (h : i < l.length) : (l[i] :: l.eraseIdx i).Perm l := by
  have e : l = l.take i ++ l[i] :: l.drop (i + 1) := by
    rw [List.getElem_cons_drop, List.take_append_drop]
  rw [List.eraseIdx_eq_take_drop_succ]
  exact (List.perm_middle (a := l[i]) (l₁ := l.take i) (l₂ := l.drop (i + 1))).symm.trans (by rw [← e])
theorem pick_perm {α : Type} (next : Nat → Nat) : ∀ (fuel k : Nat) (left : List α) (out : Array α), left.length = fuel → (pickOrder.go next fuel k left out).toList.Perm (out.toList ++ left)
  | 0, k, left, out, h => by
    have e : left = [] := List.eq_nil_of_length_eq_zero h
    subst e
    unfold pickOrder.go
    simp
  | fuel + 1, k, left, out, h => by
    unfold pickOrder.go
    have hlt : next k % left.length < left.length := Nat.mod_lt _ (by omega)
    rw [List.getElem?_eq_getElem hlt]
    simp only []
    refine (pick_perm next fuel (k + 1) _ _ (by rw [List.length_eraseIdx_of_lt hlt]; omega)).trans ?_
    rw [Array.toList_push, List.append_assoc]
    refine List.Perm.append_left _ ?_
    rw [List.singleton_append]
    exact out_perm hlt
/-- in the text's world by its own order, else as the table stands -/
def ordOf (w : World) (a : Addr) (es : Array (Int × Value)) (ep : Nat) : Array (Int × Value) := if byT w = true then pickOrder (w.params.setOrder a ep) es else es
theorem ord_perm (w : World) (a : Addr) (es : Array (Int × Value)) (ep : Nat) : (ordOf w a es ep).toList.Perm es.toList := by
  unfold ordOf
  split
  · have := pick_perm (w.params.setOrder a ep) es.size 0 es.toList #[] (by simp)
    simpa [pickOrder] using this
  · exact .rfl
theorem ord_size (w : World) (a : Addr) (es : Array (Int × Value)) (ep : Nat) : (ordOf w a es ep).size = es.size := by
  have := (ord_perm w a es ep).length_eq
  simpa using this
/-- an order is drawn for it -/
def drawnS (w : World) (es : Array (Int × Value)) (t : SetTable) : Bool := !byT w && (!t.plain && decide (es.size > 1))

section
variable {prog : Program} {w : World} {A : Around} {E : Value → Shared → Prop} {s : Shared} {a : Addr} {o : Obj} {es : Array (Int × Value)} {ep : Nat} {t : SetTable}
theorem fits_size {t : SetTable} {n : Nat} (h : t.fits n = true) : t.place.size = n := by
  unfold SetTable.fits at h
  simp only [Bool.and_eq_true, beq_iff_eq] at h
  exact h.1
theorem text_ok {Q : Bool → Shared → Prop} (h : Q (byT w) s) : wpAny (model prog w) A setsByText Q E s := wpAny_bind (wpAny_askSetting (wpAny_pure h))
theorem setNext_ok {slot i : Nat} {Q : Option (Value × Nat) → Shared → Prop} (S : SetAt w s.heap a o es ep t) (hd : drawnS w es t = false) (hs : byT w = false → SetTable.below t.place slot = i)
    (h : Q ((ordOf w a es ep)[i]?.map fun e => (e.2, if byT w = true then slot else t.place.getD i 0 + 1)) s) : wpAny (model prog w) A (setNext a slot i ep) Q E s := by
  unfold setNext
  refine wpAny_bind (wpAny_setState_of S.ho S.hd S.fits ?_)
  dsimp only
  refine wpAny_bind (text_ok ?_)
  cases hb : byT w with
  | true =>
    simp only [↓reduceIte]
    simp only [bne_self_eq_false, Bool.false_eq_true, ↓reduceIte]
    refine wpAny_bind ?_
    unfold setWalk
    refine wpAny_bind (wpAny_setState_of S.ho S.hd S.fits ?_)
    dsimp only
    refine wpAny_bind (text_ok ?_)
    rw [hb]
    simp only [↓reduceIte]
    refine wpAny_bind (wpAny_askSetting (wpAny_pure (wpAny_pure ?_)))
    have e : ordOf w a es ep = pickOrder (w.params.setOrder a ep) es := by unfold ordOf; rw [if_pos hb]
    rw [e, hb] at h
    exact h
  | false =>
    simp only [Bool.false_eq_true, ↓reduceIte]
    have hd' : (!t.plain && decide (es.size > 1)) = false := by
      unfold drawnS at hd
      rw [hb] at hd
      simpa using hd
    show wpAny _ _ (if (!t.plain && decide (es.size > 1)) = true then _ else _) _ _ _
    rw [hd']
    simp only [Bool.false_eq_true, ↓reduceIte]
    refine wpAny_bind ?_
    show wpAny _ _ (if (!t.led && !es.isEmpty) = true then _ else _) _ _ _
    rw [S.led, hb]
    simp only [Bool.not_false, Bool.not_true, Bool.false_and, Bool.false_eq_true, ↓reduceIte]
    refine wpAny_pure ?_
    rw [hs hb]
    have e : ordOf w a es ep = es := by unfold ordOf; rw [if_neg (by rw [hb]; exact Bool.false_ne_true)]
    rw [e, hb] at h
    refine wpAny_pure ?_
    have hz := fits_size S.fits
    by_cases hi : i < es.size
    · have e1 : es[i]? = some es[i] := Array.getElem?_eq_getElem hi
      have e2 : t.place[i]? = some (t.place[i]'(by omega)) := Array.getElem?_eq_getElem (by omega)
      have e3 : t.place.getD i 0 = t.place[i]'(by omega) := by rw [Array.getD_eq_getD_getElem?, e2]; rfl
      rw [e1, e3] at h
      rw [e1, e2]
      exact h
    · have e1 : es[i]? = none := Array.getElem?_eq_none (by omega)
      rw [e1] at h ⊢
      exact h
end
end My
end
section
set_option Elab.async false
set_option autoImplicit false
set_option linter.all false
set_option maxRecDepth 100000
namespace My
open PySem

abbrev SetIt (h : Heap) (it a : Addr) (first : Value) (i n ep : Nat) : Prop := h.get? it = some { cls := .type "set_iterator", dict := none, data := .fields #[first, rawInt i, .ref a, rawInt n, rawInt ep], slots := #[] }
abbrev TupAt (h : Heap) (T : Addr) (qs : List Nat) : Prop := h.get? T = some { cls := .type "tuple", dict := none, data := .seq (qs.map fun (i : Nat) => rawInt i).toArray, slots := #[] }

section
variable {prog : Program} {w : World} {A : Around} {E : Value → Shared → Prop} {s : Shared} {a it T : Addr} {o : Obj} {es : Array (Int × Value)} {ep : Nat} {t : SetTable} {first : Value} {i n : Nat}
/-- the iterator's head: its fields read, the set's size as it was -/
theorem next_head {Q : Option Value → Shared → Prop} {first : Value} (hit : SetIt s.heap it a first i es.size ep) (S : SetAt w s.heap a o es ep t)
    (h : wpAny (model prog w) A.in1 (do
      if let .int slot _ := first then
        match ← setNext a slot.toNat i ep with
        | some (x, next) =>
          setField (.ref it) 0 (rawInt next)
          setField (.ref it) 1 (rawInt ((i : Int) + 1))
          ret x
        | none => setField (.ref it) 2 .none; raiseNew (← newExc (.type "StopIteration") [])
      else
        let some places ← seqItems? first | unsupported "internal:set_iterator"
        match places[i]? with
        | some (.int place _) =>
          let x ← setNextDrawn a place.toNat ep
          setField (.ref it) 1 (rawInt ((i : Int) + 1))
          ret x
        | some _ => unsupported "internal:set_iterator"
        | none => setField (.ref it) 0 (rawInt 0); setField (.ref it) 2 .none; raiseNew (← newExc (.type "StopIteration") [])) 
      (fun fin s' => ∃ x, fin = .done (.ret x) ∧ Q (some x) s')
      (fun e s' => wpAny (model prog w) A (isInstance e (.type "StopIteration")) (fun b s2 => b = true ∧ Q none s2) E s') s) :
    wpAny (model prog w) A (pyNext (.ref it)) Q E s := by
  have hT : s.TypeIs (.ref it) "set_iterator" := ⟨_, hit, rfl⟩
  unfold pyNext
  refine wpAny_bind (wpAny_attempt (wpAny_callSpecial?_slot (name := Str.ofString "__next__") hT slot_setit_next
    (wpAny_call_entry slot_setit_next hT entry_setit_next ?_ (args_setit_next _))))
  show wpAny _ _ (fieldsOf (.ref it) >>= _) _ _ s
  refine wpAny_bind (wpAny_bind (wpAny_load hit (wpAny_pure ?_)))
  show wpAny _ _ (setEntries a >>= _) _ _ s
  refine wpAny_bind (wpAny_setEntries_of (prog := prog) (w := w) S.ho S.hd S.fits ?_)
  simp only [bne_self_eq_false, Bool.false_eq_true, ↓reduceIte]
  refine wpAny_mono h (fun fin s' q => ?_) fun e s' q => ?_
  · obtain ⟨x, rfl, q⟩ := q
    exact ⟨x, rfl, wpAny_pure q⟩
  · refine wpAny_bind (wpAny_mono q (fun b s2 q2 => ?_) fun _ _ z => z)
    obtain ⟨rfl, q2⟩ := q2
    exact wpAny_pure q2
/-- StopIteration raised -/
theorem stop_ok {Q : Option Value → Shared → Prop} {R : Fin → Shared → Prop} (hh : A.handled = none) (h : ∀ h', (∀ b u, s.heap.get? b = some u → h'.get? b = some u) → Q none { s with heap := h' }) :
    wpAny (model prog w) A.in1 (do raiseNew (← newExc (.type "StopIteration") [])) R (fun e s' => wpAny (model prog w) A (isInstance e (.type "StopIteration")) (fun b s2 => b = true ∧ Q none s2) E s') s := by
  refine wpAny_bind ?_
  simp only [newExc, newTuple]
  refine wpAny_bind (wpAny_newObj_type ?_ (by size_fits))
  refine wpAny_bind (m := firstArgMember _ _) (wpAny_of_eq (a := Value.none) (by first | rfl | (simp only [firstArgMember]; rfl)) ?_)
  refine wpAny_newObj_type ?_ (by size_fits)
  simp only [raiseNew]
  refine wpAny_bind (wpAny_handled ?_)
  rw [show A.in1.handled = none from hh]
  refine wpAny_bind (wpAny_pure (wpAny_throw ?_))
  refine wpAny_isInstance (T := "StopIteration") (b := true) ⟨_, Heap.get?_push_size _ rfl, rfl⟩ isSubtype_stop ⟨rfl, h _ fun b u e => ?_⟩
  exact Heap.get?_push_of_some _ (Heap.get?_push_of_some _ e)
theorem setField_ok {cls : Value} {vs : Array Value} {k : Nat} {x : Value} {Q : Unit → Shared → Prop}
    (ho : s.heap.get? it = some { cls := cls, dict := none, data := .fields vs, slots := #[] }) (hk : k < vs.size)
    (h : ∀ h', h'.get? it = some { cls := cls, dict := none, data := .fields (vs.setIfInBounds k x), slots := #[] } → (∀ b u, b ≠ it → s.heap.get? b = some u → h'.get? b = some u) → Q () { s with heap := h' }) :
    wpAny (model prog w) A (setField (.ref it) k x) Q E s :=
  wpAny_setField_rec ho hk fun h' e sb => h h' e fun b u hb hu => (sb.2 b hb).trans hu
theorem SetAt.ne (S : SetAt w s.heap a o es ep t) (hit : SetIt s.heap it a first i n ep) : a ≠ it := fun e => by
  have h1 := S.ho
  rw [e, hit] at h1
  cases h1
  have := S.ex.1
  simp at this
theorem next_item1 {slot : Nat} {Q : Option Value → Shared → Prop} (hit : SetIt s.heap it a (rawInt slot) i es.size ep) (S : SetAt w s.heap a o es ep t) (hd : drawnS w es t = false) (hs : byT w = false → SetTable.below t.place slot = i) (hi : i < es.size)
    (h : ∀ h' e slot', (ordOf w a es ep)[i]? = some e → SetIt h' it a (rawInt (slot' : Nat)) (i + 1) es.size ep → (byT w = false → SetTable.below t.place slot' = i + 1) → (∀ b u, b ≠ it → s.heap.get? b = some u → h'.get? b = some u) → Q (some e.2) { s with heap := h' }) :
    wpAny (model prog w) A (pyNext (.ref it)) Q E s := by
  refine next_head hit S ?_
  show wpAny _ _ (setNext a slot i ep >>= _) _ _ _
  have he : (ordOf w a es ep)[i]? = some ((ordOf w a es ep)[i]'(by rw [ord_size]; exact hi)) := Array.getElem?_eq_getElem _
  refine wpAny_bind (setNext_ok S hd hs ?_)
  rw [he]
  show wpAny _ _ (setField (.ref it) 0 (rawInt _) >>= _) _ _ _
  refine wpAny_bind (setField_ok hit (by simp) fun h1 e1 k1 => ?_)
  refine wpAny_bind (setField_ok (s := { s with heap := h1 }) e1 (by simp) fun h2 e2 k2 => ?_)
  refine wpAny_pure ⟨_, rfl, h h2 _ (if byT w = true then slot else t.place.getD i 0 + 1) he e2 (fun hb => ?_) fun b u hb hu => k2 b u hb (k1 b u hb hu)⟩
  rw [if_neg (by rw [hb]; exact Bool.false_ne_true)]
  have hz := fits_size S.fits
  have e3 : t.place[i]? = some (t.place[i]'(by omega)) := Array.getElem?_eq_getElem (by omega)
  have e4 : t.place.getD i 0 = t.place[i]'(by omega) := by rw [Array.getD_eq_getD_getElem?, e3]; rfl
  rw [e4]
  exact below_next S.tidy.rise e3
theorem next_end1 {slot : Nat} {Q : Option Value → Shared → Prop} (hh : A.handled = none) (hit : SetIt s.heap it a (rawInt slot) es.size es.size ep) (S : SetAt w s.heap a o es ep t) (hd : drawnS w es t = false) (hs : byT w = false → SetTable.below t.place slot = es.size)
    (h : ∀ h', (∀ b u, b ≠ it → s.heap.get? b = some u → h'.get? b = some u) → Q none { s with heap := h' }) :
    wpAny (model prog w) A (pyNext (.ref it)) Q E s := by
  refine next_head hit S ?_
  show wpAny _ _ (setNext a slot es.size ep >>= _) _ _ _
  have he : (ordOf w a es ep)[es.size]? = none := Array.getElem?_eq_none (by rw [ord_size]; exact Nat.le_refl _)
  refine wpAny_bind (setNext_ok S hd hs ?_)
  rw [he]
  show wpAny _ _ (setField (.ref it) 2 .none >>= _) _ _ _
  refine wpAny_bind (setField_ok hit (by simp) fun h1 e1 k1 => ?_)
  exact stop_ok (s := { s with heap := h1 }) hh fun h2 k2 => h h2 fun b u hb hu => k2 b u (k1 b u hb hu)
theorem next_item2 {qs : List Nat} {Q : Option Value → Shared → Prop} (hit : SetIt s.heap it a (.ref T) i es.size ep) (hT : TupAt s.heap T qs) (S : SetAt w s.heap a o es ep t) {q : Nat} (hq : qs[i]? = some q) {e : Int × Value} (he : es[q]? = some e)
    (h : ∀ h', SetIt h' it a (.ref T) (i + 1) es.size ep → (∀ b u, b ≠ it → s.heap.get? b = some u → h'.get? b = some u) → Q (some e.2) { s with heap := h' }) :
    wpAny (model prog w) A (pyNext (.ref it)) Q E s := by
  refine next_head hit S ?_
  show wpAny _ _ (seqItems? (.ref T) >>= _) _ _ _
  refine wpAny_bind (wpAny_seqItems hT rfl ?_)
  have e0 : (qs.map fun (i : Nat) => rawInt i).toArray[i]? = some (rawInt q) := by
    rw [List.getElem?_toArray, List.getElem?_map, hq]; rfl
  dsimp only
  rw [e0]
  show wpAny _ _ (setNextDrawn a q ep >>= _) _ _ _
  refine wpAny_bind ?_
  unfold setNextDrawn
  refine wpAny_bind (wpAny_setState_of S.ho S.hd S.fits ?_)
  dsimp only
  simp only [bne_self_eq_false, Bool.false_eq_true, ↓reduceIte]
  rw [he]
  refine wpAny_pure ?_
  refine wpAny_bind (setField_ok hit (by simp) fun h1 e1 k1 => ?_)
  exact wpAny_pure ⟨_, rfl, h h1 e1 k1⟩
theorem next_end2 {qs : List Nat} {Q : Option Value → Shared → Prop} (hh : A.handled = none) (hit : SetIt s.heap it a (.ref T) i es.size ep) (hT : TupAt s.heap T qs) (S : SetAt w s.heap a o es ep t) (hq : qs[i]? = none)
    (h : ∀ h', (∀ b u, b ≠ it → s.heap.get? b = some u → h'.get? b = some u) → Q none { s with heap := h' }) :
    wpAny (model prog w) A (pyNext (.ref it)) Q E s := by
  refine next_head hit S ?_
  show wpAny _ _ (seqItems? (.ref T) >>= _) _ _ _
  refine wpAny_bind (wpAny_seqItems hT rfl ?_)
  have e0 : (qs.map fun (i : Nat) => rawInt i).toArray[i]? = none := by
    rw [List.getElem?_toArray, List.getElem?_map, hq]; rfl
  dsimp only
  rw [e0]
  show wpAny _ _ (setField (.ref it) 0 (rawInt 0) >>= _) _ _ _
  refine wpAny_bind (setField_ok hit (by simp) fun h1 e1 k1 => ?_)
  refine wpAny_bind (setField_ok (s := { s with heap := h1 }) e1 (by simp) fun h2 e2 k2 => ?_)
  exact stop_ok (s := { s with heap := h2 }) hh fun h3 k3 => h h3 fun b u hb hu => k3 b u (k2 b u hb (k1 b u hb hu))
theorem self_ok {Q : Value → Shared → Prop} (hit : SetIt s.heap it a first i n ep) (h : Q (.ref it) s) : wpAny (model prog w) A (pyIter (.ref it)) Q E s := by
  have hT : s.TypeIs (.ref it) "set_iterator" := ⟨_, hit, rfl⟩
  refine wpAny_pyIter_slot hT slot_setit_iter (wpAny_call_entry slot_setit_iter hT entry_setit_iter ?_ (args_setit_iter _))
  unfold Builtin.«dict_keyiterator.__iter__»
  exact wpAny_pure ⟨_, rfl, "set_iterator", _, hT, slot_setit_next.lookup, h⟩
end
/-! ## the walks -/
section
variable {prog : Program} {w : World} {A : Around} {a it T : Addr} {o : Obj} {es : Array (Int × Value)} {ep : Nat} {t : SetTable}
theorem walks1 (hh : A.handled = none) (hne : a ≠ it) (hd : drawnS w es t = false) :
    Walks prog w A it [it, a] [it] es.size (fun i v => (ordOf w a es ep)[i]?.map (·.2) = some v)
      (fun i h => ∃ slot : Nat, SetIt h it a (rawInt slot) i es.size ep ∧ SetAt w h a o es ep t ∧ (byT w = false → SetTable.below t.place slot = i)) where
  sub := fun b hb => by simp at hb; simp [hb]
  frame := fun i h h' ⟨slot, h1, h2, h3⟩ hk => ⟨slot, hk it (by simp) _ h1, h2.at' fun u e => hk a (by simp) u e, h3⟩
  item := fun i s Q E hi ⟨slot, h1, h2, h3⟩ hQ => next_item1 h1 h2 hd h3 hi fun h' e slot' he hit' hs' k => hQ e.2 h' s.toks (by rw [he]; rfl)
    ⟨slot', hit', h2.at' fun u hu => k a u hne hu, hs'⟩ fun b u hb hu => k b u (fun z => hb (by simp [z])) hu
  done := fun s Q E ⟨slot, h1, h2, h3⟩ hQ => next_end1 hh h1 h2 hd h3 fun h' k => hQ h' s.toks fun b u hb hu => k b u (fun z => hb (by simp [z])) hu
  self := fun i s Q E ⟨slot, h1, _⟩ q => self_ok h1 q
theorem walks2 (hh : A.handled = none) (hne : a ≠ it) (hnT : T ≠ it) {qs : List Nat} (hp : qs.Perm (List.range es.size)) :
    Walks prog w A it [it, a, T] [it] es.size (fun i v => ∃ q e, qs[i]? = some q ∧ es[q]? = some e ∧ v = e.2)
      (fun i h => SetIt h it a (.ref T) i es.size ep ∧ TupAt h T qs ∧ SetAt w h a o es ep t) where
  sub := fun b hb => by simp at hb; simp [hb]
  frame := fun i h h' ⟨h1, h2, h3⟩ hk => ⟨hk it (by simp) _ h1, hk T (by simp) _ h2, h3.at' fun u e => hk a (by simp) u e⟩
  item := fun i s Q E hi ⟨h1, h2, h3⟩ hQ => by
    have hl : qs.length = es.size := by rw [hp.length_eq, List.length_range]
    have e1 : qs[i]? = some (qs[i]'(by omega)) := List.getElem?_eq_getElem (by omega)
    have e2 : qs[i]'(by omega) < es.size := List.mem_range.mp (hp.mem_iff.mp (List.getElem_mem _))
    have e3 : es[qs[i]'(by omega)]? = some es[qs[i]'(by omega)] := Array.getElem?_eq_getElem e2
    exact next_item2 h1 h2 h3 e1 e3 fun h' hit' k => hQ _ h' s.toks ⟨_, _, e1, e3, rfl⟩ ⟨hit', k T _ hnT h2, h3.at' fun u hu => k a u hne hu⟩ fun b u hb hu => k b u (fun z => hb (by simp [z])) hu
  done := fun s Q E ⟨h1, h2, h3⟩ hQ => next_end2 hh h1 h2 h3 (List.getElem?_eq_none (by rw [hp.length_eq, List.length_range]; exact Nat.le_refl _)) fun h' k => hQ h' s.toks fun b u hb hu => k b u (fun z => hb (by simp [z])) hu
  self := fun i s Q E ⟨h1, _⟩ q => self_ok h1 q
end
section
variable {prog : Program} {w : World} {A : Around} {E : Value → Shared → Prop}
theorem choose_ok {s : Shared} {src : Source} {n : Nat} {Q : Nat → Shared → Prop} (hn : n ≠ 0) (h : ∀ i d, i < n → Q i { s with drawn := d }) : wpAny (model prog w) A (choose src n) Q E s :=
  fun _ _ _ => ⟨hn, h _ _ (Nat.mod_lt _ (Nat.pos_of_ne_zero hn))⟩
theorem draw_ok {α : Type} : ∀ (n : Nat) (xs : List α) (s : Shared) (Q : List α → Shared → Prop), xs.length = n → (∀ l d, l.Perm xs → Q l { s with drawn := d }) → wpAny (model prog w) A (drawOrder n xs) Q E s
  | 0, xs, s, Q, hl, h => by
    have e : xs = [] := List.eq_nil_of_length_eq_zero hl
    subst e
    unfold drawOrder
    exact wpAny_pure (h [] s.drawn .rfl)
  | n + 1, [], s, Q, hl, h => by simp at hl
  | n + 1, x :: xs, s, Q, hl, h => by
    unfold drawOrder
    refine wpAny_bind (choose_ok (by simp) fun i d hi => ?_)
    rw [List.getElem?_eq_getElem hi]
    dsimp only
    refine wpAny_bind (draw_ok n _ _ _ (by rw [List.length_eraseIdx_of_lt hi]; simp at hl; simp [hl]) fun l d' hp => ?_)
    exact wpAny_pure (h _ d' ((hp.cons _).trans (out_perm hi)))
end
end My
end
section
set_option Elab.async false
set_option autoImplicit false
set_option linter.all false
set_option maxRecDepth 100000
namespace My
open PySem

theorem keys_perm {es es' : List (Int × Value)} (h : es'.Perm es) : (es'.map keyI).Perm (es.map keyI) := h.map keyI
theorem filterMap_get {α : Type} (l : List α) : (List.range l.length).filterMap (fun i => l[i]?) = l := by
  induction l with
  | nil => rfl
  | cons a t ih =>
    rw [List.length_cons, List.range_succ_eq_map, List.filterMap_cons_some (b := a) (by simp), List.filterMap_map]
    have e : ((fun i => (a :: t)[i]?) ∘ Nat.succ) = fun i => t[i]? := by funext i; simp
    rw [e, ih]
section
variable {prog : Program} {w : World} {A : Around} {E : Value → Shared → Prop} {s : Shared} {a : Addr} {o : Obj} {es : Array (Int × Value)} {ep : Nat} {t : SetTable}
/-- a set walked: its numbers in some order -/
theorem iter_ok {Q : Value → Shared → Prop} (hh : A.handled = none) (S : SetAt w s.heap a o es ep t)
    (h : ∀ (it : Addr) (h' : Heap) (d : _) (fp : List Addr) (P : Nat → Value → Prop) (St : Nat → Heap → Prop) (ks : List Int), Walks prog w A it fp [it] es.size P St → St 0 h' → (∀ b u, s.heap.get? b = some u → h'.get? b = some u) → s.heap.objs.size ≤ it →
      (∀ b ∈ fp, b = a ∨ s.heap.objs.size ≤ b) → (∀ i v, P i v → ∃ k tk, v = .int k tk ∧ ks[i]? = some k) → ks.Perm (es.toList.map keyI) → Q (.ref it) { s with heap := h', drawn := d }) :
    wpAny (model prog w) A (pyIter (.ref a)) Q E s := by
  have hT : s.TypeIs (.ref a) "set" := ⟨_, S.ho, S.ex.1⟩
  have hlt : a < s.heap.objs.size := Heap.lt_size S.ho
  refine wpAny_pyIter_slot hT F.slot_set_iter (wpAny_call_entry F.slot_set_iter hT entry_set_iter ?_ (F.args_set_iter_1 _))
  unfold Builtin.«frozenset.__iter__»
  show wpAny _ _ (Builtin.Frozenset.sizeOf a >>= _) _ _ s
  refine wpAny_bind (wpAny_bind (wpAny_setEntries_of (prog := prog) (w := w) S.ho S.hd S.fits (wpAny_pure ?_)))
  refine wpAny_bind ?_
  unfold setDrawn
  refine wpAny_bind (wpAny_setState_of S.ho S.hd S.fits ?_)
  dsimp only
  refine wpAny_bind (text_ok (wpAny_pure ?_))
  have ed : (!byT w && (!t.plain && decide (es.size > 1))) = drawnS w es t := rfl
  show wpAny _ _ (if (!byT w && (!t.plain && decide (es.size > 1))) = true then _ else _) _ _ _
  rw [ed]
  cases hd : drawnS w es t with
  | false =>
    simp only [Bool.false_eq_true, ↓reduceIte]
    refine wpAny_bind (wpAny_pure ?_)
    refine wpAny_bind (wpAny_setEpoch_of (prog := prog) (w := w) S.ho S.hd S.fits ?_)
    refine wpAny_bind (wpAny_newObj_type (wpAny_pure ⟨_, rfl, "set_iterator", _, ⟨_, Heap.get?_push_size _ rfl, rfl⟩, slot_setit_next.lookup, ?_⟩))
    refine h s.heap.objs.size _ s.drawn _ _ _ ((ordOf w a es ep).toList.map keyI) (walks1 hh (Nat.ne_of_lt hlt) hd (ep := ep) (o := o)) ⟨0, Heap.get?_push_size _ rfl, S.at' fun u e => Heap.get?_push_of_some _ e, fun _ => below_zero S.tidy.rise⟩ (fun b u e => Heap.get?_push_of_some _ e) (Nat.le_refl _) (fun b hb => ?_) (fun i v hv => ?_) (keys_perm (ord_perm w a es ep))
    · simp only [List.mem_cons, List.not_mem_nil, or_false] at hb
      rcases hb with rfl | rfl
      · exact .inr (Nat.le_refl _)
      · exact .inl rfl
    · cases e : (ordOf w a es ep)[i]? with
      | none => rw [e] at hv; cases hv
      | some x =>
        rw [e] at hv
        have e2 : x.2 = v := Option.some.inj hv
        have e3 : (ordOf w a es ep).toList[i]? = some x := by rw [Array.getElem?_toList]; exact e
        obtain ⟨k, tk, rfl⟩ := S.eints x ((ord_perm w a es ep).mem_iff.mp (List.mem_of_getElem? e3))
        exact ⟨k, tk, e2.symm, by rw [List.getElem?_map, e3]; rfl⟩
  | true =>
    simp only [↓reduceIte]
    refine wpAny_bind (draw_ok _ _ _ _ (by rw [List.length_range]) fun qs d hp => ?_)
    have hl : qs.length = es.size := by rw [hp.length_eq, List.length_range]
    refine wpAny_bind (wpAny_newTuple ?_ (by rw [List.length_map, hl]; exact fits_of_scanBound S.few))
    have S1 : SetAt w (s.heap.push { cls := .type "tuple", data := .seq (qs.map fun (i : Nat) => rawInt i).toArray }) a o es ep t := S.at' fun u e => Heap.get?_push_of_some _ e
    refine wpAny_bind (wpAny_setEpoch_of (prog := prog) (w := w) S1.ho S1.hd S1.fits ?_)
    refine wpAny_bind (wpAny_newObj_type (wpAny_pure ⟨_, rfl, "set_iterator", _, ⟨_, Heap.get?_push_size _ rfl, rfl⟩, slot_setit_next.lookup, ?_⟩))
    have hsz : (s.heap.push { cls := .type "tuple", data := .seq (qs.map fun (i : Nat) => rawInt i).toArray }).objs.size = s.heap.objs.size + 1 := Heap.size_push ..
    have W := walks2 (prog := prog) (w := w) (A := A) (a := a) (it := s.heap.objs.size + 1) (T := s.heap.objs.size) (o := o) (es := es) (ep := ep) (t := t) hh (Nat.ne_of_lt (Nat.lt_succ_of_lt hlt)) (Nat.ne_of_lt (Nat.lt_succ_self _)) hp
    rw [hsz]
    refine h _ _ d _ _ _ (qs.filterMap fun q => (es[q]?).map keyI) W ⟨?_, Heap.get?_push_of_some _ (Heap.get?_push_size _ rfl), S1.at' fun u e => Heap.get?_push_of_some _ e⟩ (fun b u e => Heap.get?_push_of_some _ (Heap.get?_push_of_some _ e)) (Nat.le_succ _) (fun b hb => ?_) (fun i v hv => ?_) ?_
    · rw [← hsz]
      exact Heap.get?_push_size _ rfl
    · simp only [List.mem_cons, List.not_mem_nil, or_false] at hb
      rcases hb with rfl | rfl | rfl
      · exact .inr (Nat.le_succ _)
      · exact .inl rfl
      · exact .inr (Nat.le_refl _)
    · obtain ⟨q, e, h1, h2, rfl⟩ := hv
      have he : e ∈ es.toList := by
        rw [← Array.getElem?_toList] at h2
        exact List.mem_of_getElem? h2
      obtain ⟨k, tk, rfl⟩ := S.eints e he
      refine ⟨k, tk, rfl, ?_⟩
      have hall : ∀ q ∈ qs, ((es[q]?).map keyI).isSome = true := fun q hq => by
        have : q < es.size := List.mem_range.mp (hp.mem_iff.mp hq)
        rw [Array.getElem?_eq_getElem this]; rfl
      have gen : ∀ (l : List Nat) (i : Nat), (∀ q ∈ l, ((es[q]?).map keyI).isSome = true) → (l.filterMap fun q => (es[q]?).map keyI)[i]? = (l[i]?).bind fun q => (es[q]?).map keyI := fun l => by
        induction l with
        | nil => intro i _; rfl
        | cons x l ih =>
          intro i hl
          obtain ⟨y, hy⟩ := Option.isSome_iff_exists.mp (hl x (.head _))
          rw [List.filterMap_cons_some (f := fun q => (es[q]?).map keyI) hy]
          cases i with
          | zero => simp [hy]
          | succ i => simpa using ih i (fun q hq => hl q (.tail _ hq))
      rw [gen qs i hall, h1]
      show (es[q]?).map keyI = some k
      rw [h2]
      rfl
    · have e1 := hp.filterMap (fun q => (es[q]?).map keyI)
      refine e1.trans ?_
      have e2 : (List.range es.size).filterMap (fun q => (es[q]?).map keyI) = es.toList.map keyI := by
        have := filterMap_get es.toList
        simp only [Array.length_toList, Array.getElem?_toList] at this
        rw [← List.map_filterMap, this]
      rw [e2]
end
end My
end
section
set_option Elab.async false
set_option autoImplicit false
set_option linter.all false
set_option maxRecDepth 100000
namespace My
open PySem
section
variable {prog : Program} {w : World} {A : Around} {E : Value → Shared → Prop} {s : Shared} {a : Addr} {o : Obj} {es : Array (Int × Value)} {ep : Nat} {t : SetTable}
theorem moved_eq {wr : List Addr} {s s' : Shared} (hm : Moved wr (fun a b => b = a) s s') : s' = { s with heap := s'.heap, toks := s'.toks } := by
  obtain ⟨h', g', d', t', o'⟩ := s'
  have e1 : g' = s.gens := hm.gens
  have e2 : d' = s.drawn := hm.drawn
  have e3 : o' = s.os := hm.os
  subst e1 e2 e3
  rfl
theorem hint_ok {Q : Bool → Shared → Prop} (hT : s.TypeIs (.ref a) "set") (h : Q false s) : wpAny (model prog w) A (Builtin.List.listLengthHint (.ref a)) Q E s := by
  unfold Builtin.List.listLengthHint
  refine wpAny_bind (wpAny_specialOf hT F.slot_set_len.lookup ?_)
  generalize hid : ("set.__len__" : String) = id0
  wp_delta
  rw [show splitId id0 = some ("set", "__len__") from by subst hid; decide +kernel]
  subst hid
  refine wpAny_bind (wpAny_isInstance (T := "set") (b := true) hT (by rw [isSubtype_type]; kernel_rfl) ?_)
  refine wpAny_ite_split (fun z => absurd z (by decide)) (fun _ => ?_)
  refine wpAny_ite_split (fun _ => ?_) (fun z => absurd (by decide +kernel) z)
  exact wpAny_bind (wpAny_typeOf hT (wpAny_pure h))
/-- a new list filled from the set -/
theorem fill_ok {R : Result → Shared → Prop} (hh : A.handled = none) (S : SetAt w s.heap a o es ep t) {D : Addr} (hDa : D ≠ a) {c0 : Nat} (hD : s.heap.get? D = some { cls := .type "list", data := .seq #[] c0 }) (res : Value)
    (hR : ∀ h' tk d (acc : Array Value) c (ks : List Int), (∀ b u, b ≠ D → s.heap.get? b = some u → h'.get? b = some u) → h'.get? D = some { cls := .type "list", dict := none, data := .seq acc c, slots := #[] } →
      (∀ (i : Nat) v, acc[i]? = some v → ∃ k tk, v = .int k tk ∧ ks[i]? = some k) → acc.size = es.size → ks.Perm (es.toList.map keyI) → R (.ok (.ret res)) { s with heap := h', toks := tk, drawn := d }) :
    wpAny (model prog w) A.in1 (Builtin.List.listExtendWith (.ref D) (.ref a) res)
      (fun fin s' => match fin with | .done f => R (.ok f) s' | .again c' => c'.quiet = true ∧ codeAny (model prog w) A c' R s') (fun e s' => R (.error e) s') s := by
  have hT : s.TypeIs (.ref a) "set" := ⟨_, S.ho, S.ex.1⟩
  unfold Builtin.List.listExtendWith
  refine wpAny_bind (wpAny_typeOf hT ?_)
  have h1 : Builtin.List.listSameRef (.ref D) (.ref a) = false := by simp [Builtin.List.listSameRef, hDa]
  have h2 : (Value.type "set" == Value.type "list") = false := by decide
  have h3 : (Value.type "set" == Value.type "tuple") = false := by decide
  simp only [h1, h2, h3, Bool.or_false, Bool.false_eq_true, if_false]
  refine wpAny_bind (iter_ok (A := A.in1) hh S fun it h' d fp P St ks W st hk hit hfp hP hp => ?_)
  have hDs : D < s.heap.objs.size := Heap.lt_size hD
  have hDf : D ∉ fp := fun m => by
    rcases hfp D m with z | z
    · exact hDa z
    · exact absurd hDs (Nat.not_lt.mpr z)
  have hD1 : h'.get? D = some { cls := .type "list", data := .seq #[] c0 } := hk _ _ hD
  have hDit : D ≠ it := Nat.ne_of_lt (Nat.lt_of_lt_of_le hDs hit)
  have loop : ∀ (h2 : Heap) (c1 tk : Nat), St 0 h2 → (∀ b u, b ≠ D → s.heap.get? b = some u → h2.get? b = some u) → h2.get? D = some { cls := .type "list", data := .seq #[] c1 } →
      codeAny (model prog w) A (.builtin "list.extend.loop" ⟨[.ref D, .ref it, res], []⟩) R { s with heap := h2, toks := tk, drawn := d } := fun h2 c1 tk st2 k2 hD2 => by
    refine codeAny_extend_loopS W.toS (fits_of_scanBound S.few) D hDf res es.size 0 _ #[] c1 rfl (Nat.zero_le _) st2 hD2 (ItemsOf.nil _) fun s' acc c hm hS' hacc => ?_
    rw [moved_eq hm]
    refine hR s'.heap s'.toks d acc c ks (fun b u hb hu => hm.heap b u (fun m => ?_) (k2 b u hb hu)) hS' (fun i v e => hP i v (hacc.2 i v e)) hacc.1 hp
    rcases List.mem_cons.mp m with z | z
    · exact hb z
    · rw [List.mem_singleton.mp z] at hu
      exact absurd (Heap.lt_size hu) (Nat.not_lt.mpr hit)
  refine wpAny_bind (wpAny_holding (hint_ok ⟨_, hk _ _ S.ho, S.ex.1⟩ ?_))
  refine wpAny_ite_split (fun _ => ?_) (fun z => absurd (by decide) z)
  refine wpAny_bind (wpAny_rule (wpAny_bind ?_))
  show wpAny _ _ (updateSeq D (·.push .none) >>= fun _ => updateSeq D (·.pop)) _ _ _
  refine wpAny_bind (wpAny_updateSeq hD1 rfl ?_)
  have hD2 := Heap.get?_update_self (Obj.mapSeq (·.push Value.none)) hD1 rfl
  refine wpAny_updateSeq (hz := by seq_fits) hD2 rfl ?_
  have hD3 := Heap.get?_update_self (Obj.mapSeq (·.pop)) hD2 rfl
  refine wpAny_pure ⟨plainId_quiet F.plain_extend_loop _, loop _ _ _ (W.frame 0 _ _ st fun b hb u e => ?_) (fun b u hb hu => ?_) hD3⟩
  · have hbD : D ≠ b := fun z => hDf (z ▸ hb)
    exact (Heap.get?_update_other _ _ hbD).trans ((Heap.get?_update_other _ _ hbD).trans e)
  · exact (Heap.get?_update_other _ _ (Ne.symm hb)).trans ((Heap.get?_update_other _ _ (Ne.symm hb)).trans (hk _ _ hu))
theorem collect_ok {Q : List Value → Shared → Prop} (hh : A.handled = none) (S : SetAt w s.heap a o es ep t)
    (hQ : ∀ h' tk d (vs : List Value) (ks : List Int), (∀ b u, s.heap.get? b = some u → h'.get? b = some u) → (∀ (i : Nat) v, vs[i]? = some v → ∃ k tk, v = .int k tk ∧ ks[i]? = some k) → vs.length = es.size → ks.Perm (es.toList.map keyI) → s.heap.objs.size < h'.objs.size → Q vs { s with heap := h', toks := tk, drawn := d }) :
    wpAny (model prog w) A (collect (.ref a)) Q E s := by
  have hlt : a < s.heap.objs.size := Heap.lt_size S.ho
  unfold collect
  refine wpAny_bind (wpAny_runValue (codeAny_builtin F.entry_proto_collect ?_))
  rw [Around.under_plainId F.plain_proto_collect _]
  show wpAny _ A.in1 (newList [] >>= fun l => again (.builtin "list.__iadd__" ⟨[l, .ref a], []⟩)) _ _ s
  refine wpAny_bind (wpAny_newObj_type ?_)
  refine wpAny_pure ⟨plainId_quiet F.plain_list_iadd _, codeAny_builtin F.entry_list_iadd ?_⟩
  rw [Around.under_plainId F.plain_list_iadd _]
  have hS₁ : (s.heap.push { cls := .type "list", data := .seq ([] : List Value).toArray }).get? s.heap.objs.size = some { cls := .type "list", data := .seq #[] } := Heap.get?_push_size _ rfl
  show wpAny _ A.in1 (Builtin.List.listExtendWith (.ref s.heap.objs.size) (.ref a) (.ref s.heap.objs.size)) _ _ _
  have key := fill_ok (prog := prog) (A := A) (s := { s with heap := s.heap.push { cls := .type "list", data := .seq ([] : List Value).toArray } })
    (R := fun (q : Result) (s' : Shared) => ∃ (h' : Heap) (tk : Nat) (d : Drawn) (acc : Array Value) (c : Nat) (ks : List Int), q = .ok (.ret (.ref s.heap.objs.size)) ∧ s' = { s with heap := h', toks := tk, drawn := d } ∧
      (∀ b u, s.heap.get? b = some u → h'.get? b = some u) ∧ h'.get? s.heap.objs.size = some { cls := .type "list", dict := none, data := .seq acc c, slots := #[] } ∧
      (∀ (i : Nat) v, acc[i]? = some v → ∃ k tk, v = .int k tk ∧ ks[i]? = some k) ∧ acc.size = es.size ∧ ks.Perm (es.toList.map keyI))
    hh (S.at' fun u e => Heap.get?_push_of_some _ e) (Nat.ne_of_gt hlt) hS₁ (.ref s.heap.objs.size)
    (fun h' tk d acc c ks k1 k2 k3 k4 k5 => ⟨h', tk, d, acc, c, ks, rfl, rfl, fun b u e => k1 b u (Nat.ne_of_lt (Heap.lt_size e)) (Heap.get?_push_of_some _ e), k2, k3, k4, k5⟩)
  have last : ∀ s', (∃ (h' : Heap) (tk : Nat) (d : Drawn) (acc : Array Value) (c : Nat) (ks : List Int), s' = { s with heap := h', toks := tk, drawn := d } ∧
      (∀ b u, s.heap.get? b = some u → h'.get? b = some u) ∧ h'.get? s.heap.objs.size = some { cls := .type "list", dict := none, data := .seq acc c, slots := #[] } ∧
      (∀ (i : Nat) v, acc[i]? = some v → ∃ k tk, v = .int k tk ∧ ks[i]? = some k) ∧ acc.size = es.size ∧ ks.Perm (es.toList.map keyI)) →
      wpAny (model prog w) A (do match (← load s.heap.objs.size).data with | .seq xs _ => pure xs.toList | _ => unsupported "internal:collect") Q E s' := fun s' ⟨h', tk, d, acc, c, ks, e, k1, k2, k3, k4, k5⟩ => by
    subst e
    refine wpAny_bind (wpAny_load k2 (wpAny_pure ?_))
    exact hQ h' tk d acc.toList ks k1 (fun i v e => k3 i v (by rw [← Array.getElem?_toList]; exact e)) (by rw [Array.length_toList]; exact k4) k5 (Heap.lt_size k2)
  refine wpAny_mono key (fun fin s' x => ?_) fun e s' x => ?_
  · cases fin with
    | done f =>
      obtain ⟨h', tk, d, acc, c, ks, e, z⟩ := x
      cases e
      exact last s' ⟨h', tk, d, acc, c, ks, z⟩
    | again c₁ =>
      refine ⟨x.1, codeAny_mono x.2 fun q s₂ y => ?_⟩
      obtain ⟨h', tk, d, acc, c, ks, e, z⟩ := y
      subst e
      exact last s₂ ⟨h', tk, d, acc, c, ks, z⟩
  · obtain ⟨_, _, _, _, _, _, e, _⟩ := x
    cases e
end
end My
end
section
set_option Elab.async false
set_option autoImplicit false
set_option linter.all false
set_option maxRecDepth 100000
namespace My
open PySem
/-- a set of just the numbers of this list -/
def SetL (w : World) (h : Heap) (a : Addr) (ns : List Int) : Prop := ∃ o es ep t, SetAt w h a o es ep t ∧ ∀ k, k ∈ es.toList.map keyI ↔ k ∈ ns
theorem SetL.at' {w : World} {h h' : Heap} {a : Addr} {ns : List Int} (S : SetL w h a ns) (k : ∀ u, h.get? a = some u → h'.get? a = some u) : SetL w h' a ns := by
  obtain ⟨o, es, ep, t, S, m⟩ := S
  exact ⟨o, es, ep, t, S.at' k, m⟩
/-- the first i of them are in -/
def SetM (w : World) (h : Heap) (a : Addr) (val : Nat → Int) (i : Nat) : Prop := ∃ o es ep t, SetAt w h a o es ep t ∧ es.size ≤ i ∧ ∀ k, k ∈ es.toList.map keyI ↔ ∃ j, j < i ∧ val j = k
theorem SetM.at' {w : World} {h h' : Heap} {a : Addr} {val : Nat → Int} {i : Nat} (S : SetM w h a val i) (k : ∀ u, h.get? a = some u → h'.get? a = some u) : SetM w h' a val i := by
  obtain ⟨o, es, ep, t, S, m⟩ := S
  exact ⟨o, es, ep, t, S.at' k, m⟩
section
variable {prog : Program} {w : World} {A : Around} {R : Result → Shared → Prop} {I : Addr} {fp wr : List Addr} {G : Array GenState → Array GenState → Prop} {n : Nat} {P : Nat → Value → Prop} {St : Nat → Shared → Prop}
theorem loop_ok (W : WalksS prog w A.in1 I fp wr G n P St) (D : Addr) (hDf : D ∉ fp) (val : Nat → Int) (hval : ∀ i v, P i v → ∃ t, v = .int (val i) t) (hb : n + 1 < scanBound) :
    ∀ (k i : Nat) (s : Shared), n - i = k → i ≤ n → St i s → SetM w s.heap D val i → (∀ s', Moved (D :: wr) G s s' → SetM w s'.heap D val n → R (.ok (.ret .none)) s') →
      codeAny (model prog w) A (.builtin "set.update.loop" ⟨[.ref D, .ref I], []⟩) R s := by
  have hDw : D ∉ wr := fun m => hDf (W.sub _ m)
  have hsub : ∀ b ∈ wr, b ∈ D :: wr := fun b m => List.mem_cons_of_mem _ m
  intro k
  induction k with
  | zero =>
    intro i s hk hi hst S hR
    have e : i = n := by omega
    subst e
    refine codeAny_builtin PyProof.Rows.F.entry_set_update_loop ?_
    rw [Around.under_plainId PyProof.Rows.F.plain_set_update_loop _]
    show wpAny _ A.in1 (pyNext (.ref I) >>= _) _ _ s
    refine wpAny_bind (W.done s _ _ hst fun s' hm => ?_)
    show wpAny _ A.in1 (ret Value.none) _ _ s'
    exact wpAny_pure (hR s' (hm.mono hsub) (S.at' fun u e => hm.heap D u hDw e))
  | succ k ih =>
    intro i s hk hi hst S hR
    have hlt : i < n := by omega
    refine codeAny_builtin PyProof.Rows.F.entry_set_update_loop ?_
    rw [Around.under_plainId PyProof.Rows.F.plain_set_update_loop _]
    show wpAny _ A.in1 (pyNext (.ref I) >>= _) _ _ s
    refine wpAny_bind (W.item i s _ _ hlt hst fun v s' hP hst' hm => ?_)
    obtain ⟨t, rfl⟩ := hval i v hP
    obtain ⟨o, es, ep, tb, S1, hz, mem⟩ := S.at' (h' := s'.heap) fun u e => hm.heap D u hDw e
    show wpAny _ A.in1 (holding [Value.int (val i) t] (setAdd D (.int (val i) t)) >>= _) _ _ s'
    refine wpAny_bind (wpAny_holding ?_)
    unfold setAdd
    refine wpAny_holding (wpAny_bind ?_)
    refine (intKind prog w).pyHash (k := val i) (intKind_is _ _ _ _) ?_
    have go : ∀ (h' : Heap) (tk : Nat), s'.toks ≤ tk → (∀ b u, b ≠ D → s'.heap.get? b = some u → h'.get? b = some u) → SetM w h' D val (i + 1) →
        codeAny (model prog w) A (.builtin "set.update.loop" ⟨[.ref D, .ref I], []⟩) R { s' with heap := h', toks := tk } := fun h' tk ht kk S2 => by
      refine ih (i + 1) _ (by omega) hlt (W.frame _ s' _ _ hst' ht fun b hb u e => kk b u (fun z => hDf (z ▸ hb)) e) S2 fun s'' hm'' S3 => ?_
      refine hR s'' (Moved.trans W.gtrans ((hm.mono hsub).then_heap ht fun b u hb e => ?_) hm'') S3
      exact kk b u (fun z => hb (by rw [z]; exact List.mem_cons_self)) e
    show wpAny _ _ (setAddHashed D (.int (val i) t) (hashInt (val i))) _ _ _
    refine add_ok (s := { s' with toks := s'.toks + 1 }) S1 (by omega) (fun hin => ?_) (fun hno h' o' es' ep' t' sb S2 hp => ?_)
    · refine wpAny_pure ⟨plainId_quiet PyProof.Rows.F.plain_set_update_loop _, go s'.heap _ (Nat.le_succ _) (fun b u _ e => e) ⟨o, es, ep, tb, S1, by omega, fun k' => ?_⟩⟩
      rw [mem k']
      constructor
      · rintro ⟨j, hj, e⟩; exact ⟨j, by omega, e⟩
      · rintro ⟨j, hj, e⟩
        by_cases ej : j = i
        · subst ej
          subst e
          exact (mem _).mp hin
        · exact ⟨j, by omega, e⟩
    · refine wpAny_pure ⟨plainId_quiet PyProof.Rows.F.plain_set_update_loop _, go h' _ (Nat.le_succ _) (fun b u hb e => (sb.2 b hb).trans e) ⟨o', es', ep', t', S2, ?_, fun k' => ?_⟩⟩
      · have := hp.length_eq
        simp at this
        omega
      · rw [hp.mem_iff, List.mem_append, mem k', List.mem_singleton]
        constructor
        · rintro (⟨j, hj, e⟩ | e)
          · exact ⟨j, by omega, e⟩
          · exact ⟨i, by omega, e.symm⟩
        · rintro ⟨j, hj, e⟩
          by_cases ej : j = i
          · subst ej; exact .inr e.symm
          · exact .inl ⟨j, by omega, e⟩
end
section
variable {prog : Program} {w : World} {A : Around} {E : Value → Shared → Prop} {s : Shared}
theorem new_ok (a : Value) {Q₁ : Value → Shared → Prop}
    (h : Q₁ (.ref s.heap.objs.size) { s with heap := s.heap.push { cls := .type "set", dict := none, data := .set #[] 0 (.fresh 0 0 (!byT w)) } }) :
    codeAny (model prog w) A (.call (.builtin "set.__new__") ⟨[.type "set", a], []⟩) (wants Q₁ E) s := by
  refine codeAny_of_tree ?_
  show wpAny _ A.in1 (do checkBuiltinCall "set.__new__" ⟨[.type "set", a], []⟩; again (.builtin "set.__new__" ⟨[.type "set", a], []⟩)) _ _ s
  refine wpAny_bind (wpAny_of_eq (F.newCall_set_1 a) (wpAny_pure ⟨plainId_quiet F.plain_set_new _, codeAny_builtin F.entry_set_new ?_⟩))
  rw [Around.under_plainId F.plain_set_new _]
  unfold Builtin.«set.__new__» Builtin.Frozenset.newClass
  have hsub := sub_set_self
  obtain ⟨hp, g, d, tk, os⟩ := s
  dsimp only
  wp_walk
  refine wpAny_askSetting (wpAny_pure ?_)
  dsimp only
  simp only [newObj]
  refine wpAny_bind (wpAny_alloc (wpAny_pure ?_))
  exact wpAny_pure h
set_option maxHeartbeats 4000000 in
theorem set_ok {l : Addr} {items : Array Value} {ns : List Int} {Q : Value → Shared → Prop} (hh : A.handled = none) (hl : s.heap.IsList l items) (hi : PyProof.Rows.IntsAre items.toList ns) (hb : items.size + 1 < scanBound)
    (h : ∀ (h' : Heap) (tk : Nat), SetL w h' s.heap.objs.size ns → (∀ b u, s.heap.get? b = some u → h'.get? b = some u) → Q (.ref s.heap.objs.size) { s with heap := h', toks := tk }) :
    wpAny (model prog w) A (call (.type "set") [.ref l]) Q E s := by
  obtain ⟨c, tl, hmro⟩ := F.called_set.mro
  have hmade := F.called_set.made
  have hsub := F.called_set.sub
  have hlen : items.size = ns.length := by rw [← Array.length_toList]; exact hi.length
  refine wpAny_call (codeAny_of_tree ?_)
  show wpAny _ _ (callAny (.type "set") _) _ _ _
  refine wpAny_pure ⟨Code.quiet_builtin _ (by decide +kernel), codeAny_builtin F.entry_type_call ?_⟩
  rw [Around.under_plain (weight_type_call_type "set" [.ref l] []) rfl]
  have h1 := F.called_set.notType
  have h2 := F.called_set.canCreate
  have hct := F.typeCall_set_1 (.ref l)
  repeat (any_goals (first | assumption | wp_step))
  refine codeAny_mono (new_ok (.ref l) (E := E) (Q₁ := fun obj s₁ => obj = .ref s.heap.objs.size ∧ s₁ = { s with heap := s.heap.push { cls := .type "set", dict := none, data := .set #[] 0 (.fresh 0 0 (!byT w)) } }) ⟨rfl, rfl⟩) fun r s₁ hr => ?_
  cases r with
  | error e => exact hr
  | ok fl =>
    cases fl with
    | ret obj =>
      obtain ⟨rfl, rfl⟩ := hr
      have hS : (s.heap.push { cls := .type "set", dict := none, data := .set #[] 0 (.fresh 0 0 (!byT w)) }).get? s.heap.objs.size = some { cls := .type "set", dict := none, data := .set #[] 0 (.fresh 0 0 (!byT w)) } := Heap.get?_push_size _ rfl
      have hT : Shared.TypeIs { s with heap := s.heap.push { cls := .type "set", dict := none, data := .set #[] 0 (.fresh 0 0 (!byT w)) } } (.ref s.heap.objs.size) "set" := ⟨_, hS, rfl⟩
      have hli := F.called_set.init.lookup
      have hbi := F.called_set.init.bind (.ref s.heap.objs.size)
      repeat (any_goals (first | assumption | wp_step))
      refine codeAny_mono (codeAny_call_builtin (R := wants (fun r s₂ => r = .none ∧ ∃ h' tk, s₂ = { s with heap := h', toks := tk } ∧ SetM w h' s.heap.objs.size (fun i => ns.getD i 0) items.size ∧
          (∀ b u, s.heap.get? b = some u → h'.get? b = some u)) E) F.called_set.init.plain F.entry_set_init (check_set_init_1 hT ?_)) fun r₂ s₂ hr₂ => ?_
      · obtain ⟨ol, hol, hcl, nl, hdl⟩ := hl
        obtain ⟨ocls, odict, odata, oslots⟩ := ol
        simp only at hcl hdl
        subst hcl; subst hdl
        have hol' : (s.heap.push { cls := .type "set", dict := none, data := .set #[] 0 (.fresh 0 0 (!byT w)) }).get? l = some { cls := .type "list", dict := odict, data := .seq items nl, slots := oslots } := Heap.get?_push_of_some _ hol
        have hsls := F.sub_list_set
        have hslf := F.sub_list_frozenset
        have hne : (Value.type "list" == Value.type "dict") = false := by decide
        have hl1 : (s.heap.push { cls := .type "set", dict := none, data := .set #[] 0 (.fresh 0 0 (!byT w)) }).IsList l items := ⟨_, hol', rfl, nl, rfl⟩
        unfold Builtin.«set.__init__» noKeywords Builtin.Frozenset.updateFrom
        generalize hPI : pyIter = PI
        wp_walk
        subst hPI
        refine wpAny_pyIter_list hl1 ?_
        refine wpAny_bind (wpAny_runValue ?_)
        have hlS : l < s.heap.objs.size := Heap.lt_size hol
        have hh3 : A.in1.in1.in1.handled = none := by simp [hh]
        have hsz : (s.heap.push { cls := .type "set", dict := none, data := .set #[] 0 (.fresh 0 0 (!byT w)) }).objs.size = s.heap.objs.size + 1 := Heap.size_push ..
        have hneI : l ≠ (s.heap.push { cls := .type "set", dict := none, data := .set #[] 0 (.fresh 0 0 (!byT w)) }).objs.size := by
          rw [hsz]; exact Nat.ne_of_lt (Nat.lt_succ_of_lt hlS)
        have hSf : s.heap.objs.size ∉ [(s.heap.push { cls := .type "set", dict := none, data := .set #[] 0 (.fresh 0 0 (!byT w)) }).objs.size, l] := by
          rw [hsz]; simp only [List.mem_cons, List.mem_singleton, List.not_mem_nil, or_false, not_or]
          exact ⟨Nat.ne_of_lt (Nat.lt_succ_self _), Nat.ne_of_gt hlS⟩
        have hval : ∀ (i : Nat) (v : Value), items[i]? = some v → ∃ t, v = .int ((fun i => ns.getD i 0) i) t := fun i v hv =>
          PyProof.Rows.IntsAre.int_at hi i v (by rw [Array.getElem?_toList]; exact hv)
        refine loop_ok ((Walks.list hh3 _ l hneI items).toS) s.heap.objs.size hSf (fun i => ns.getD i 0) hval hb (items.size - 0) 0 _ (by omega) (Nat.zero_le _) ⟨⟨_, Heap.get?_push_size _ rfl, rfl, rfl⟩, (hl1.push _)⟩ ?hS0 ?hR
        case hS0 =>
          refine ⟨_, #[], 0, _, ⟨Heap.get?_push_of_some _ hS, ⟨rfl, rfl, rfl⟩, rfl, fun e he => by simp at he, by simp, by decide, by rfl, tidy_fresh _ _ _, rfl⟩, Nat.le_refl _, fun k => ?_⟩
          simp
        case hR =>
          intro s' hm hS'
          rw [moved_eq hm]
          refine wpAny_pure ?_
          show wpAny _ _ (ret Value.none) _ _ _
          refine wpAny_pure ⟨rfl, s'.heap, s'.toks, rfl, hS', fun b u e => ?_⟩
          have hb0 : b < s.heap.objs.size := Heap.lt_size e
          refine hm.heap b u (fun m => ?_) (Heap.get?_push_of_some _ (Heap.get?_push_of_some _ e))
          rcases List.mem_cons.mp m with z | z
          · exact absurd hb0 (by rw [z]; exact Nat.lt_irrefl _)
          · have z' := List.mem_singleton.mp z
            rw [z', hsz] at hb0
            exact absurd hb0 (Nat.not_lt.mpr (Nat.le_succ _))
      · cases r₂ with
        | error e => exact hr₂
        | ok fl₂ =>
          cases fl₂ with
          | ret r =>
            obtain ⟨rfl, h', tk, rfl, hS', hk'⟩ := hr₂
            repeat (any_goals (first | assumption | wp_step))
            refine h _ _ ?_ hk'
            obtain ⟨o, es, ep, t, S, _, mem⟩ := hS'
            refine ⟨o, es, ep, t, S, fun k => ?_⟩
            rw [mem k, hlen]
            constructor
            · rintro ⟨j, hj, e⟩
              rw [← e]
              show ns.getD j 0 ∈ ns
              rw [List.getD_eq_getElem?_getD, List.getElem?_eq_getElem hj]
              exact List.getElem_mem hj
            · intro hk
              obtain ⟨j, hj⟩ := List.getElem?_of_mem hk
              obtain ⟨hl, _⟩ := List.getElem?_eq_some_iff.mp hj
              exact ⟨j, hl, by show ns.getD j 0 = k; rw [List.getD_eq_getElem?_getD, hj]; rfl⟩
          | _ => exact hr₂.elim
    | _ => exact hr.elim
end
end My
end
section
set_option Elab.async false
set_option linter.all false
set_option maxRecDepth 100000
set_option maxHeartbeats 2000000
/-! rules of my own over the layer: list(range(..)), set(..), sorted of a set, len of a set -/
namespace My
open PySem
theorem intsAre_of : ∀ (vs : List Value) (ks : List Int), vs.length = ks.length → (∀ (i : Nat) v, vs[i]? = some v → ∃ k tk, v = Value.int k tk ∧ ks[i]? = some k) → PyProof.Rows.IntsAre vs ks
  | [], [], _, _ => .nil
  | v :: vs, k :: ks, hl, h => by
    obtain ⟨k', tk, e1, e2⟩ := h 0 v rfl
    have e : k = k' := Option.some.inj e2
    subst e
    subst e1
    exact .cons _ _ (intsAre_of vs ks (by simpa using hl) fun i v e => h (i + 1) v e)
  | [], _ :: _, hl, _ => by simp at hl
  | _ :: _, [], hl, _ => by simp at hl
theorem strict_of : ∀ {l : List Int}, l.Pairwise (· ≤ ·) → l.Nodup → l.Pairwise (· < ·)
  | [], _, _ => .nil
  | a :: r, h, n => by
    rw [List.pairwise_cons] at h
    rw [List.nodup_cons] at n
    refine List.pairwise_cons.mpr ⟨fun b hb => ?_, strict_of h.2 n.2⟩
    have h1 := h.1 b hb
    have h2 : a ≠ b := fun e => n.1 (e ▸ hb)
    omega
end My
namespace L2
open PySem PySem.Spec PyProof.Rows
section
variable {X : Cx} {pins : List (Addr × Obj)} {σ : St} {H H' : Hp} {s : Shared} {h' : Heap}
/-- all objects kept, draws may have been made -/
theorem Inv.keptD {t' : Nat} {d' : Drawn} (I : Inv X pins σ H s) (k : ∀ b u, s.heap.get? b = some u → h'.get? b = some u) : Inv X pins σ H { s with heap := h', toks := t', drawn := d' } :=
  I.step (g' := s.gens) (d' := d') (ch := []) (fun _ z => nomatch z) (fun b o _ _ _ e _ => k b o e) (fun b o _ _ _ e _ => ⟨o.slots, k b o e⟩) (fun _ _ _ _ n => n) (fun b o _ e => ⟨o, k b o e⟩) (fun _ _ e => e) (fun _ _ _ e => e)
    (fun b ps e => ⟨#[], by rw [e]; simp⟩) (fun m hm => by
      obtain ⟨o, es, ep, ho, r⟩ := hm
      exact ⟨o, es, ep, k _ o ho, r⟩) (I.hok.kept k) I.bare
/-- a range object stands at l -/
def RngAt (l : Addr) (i j c : Int) (h : Heap) : Prop := ∃ t u v, h.get? l = some { cls := .type "range", data := .fields #[.int i t, .int j u, .int c v] }
theorem RngAt.stay {l : Addr} {i j c : Int} (h1 h2 : Heap) (r : RngAt l i j c h1) (k : ∀ o, h1.get? l = some o → h2.get? l = some o) : RngAt l i j c h2 := by
  obtain ⟨t, u, v, e⟩ := r
  exact ⟨t, u, v, k _ e⟩
theorem Inv.rngNew {i j c : Int} {t u v : Tok} {tk : Nat} (I : Inv X pins σ H s) : Inv X pins σ (upd H s.heap.objs.size (.ext (RngAt s.heap.objs.size i j c))) { s with heap := s.heap.push { cls := .type "range", data := .fields #[.int i t, .int j u, .int c v] }, toks := tk } := by
  have e : (s.heap.push { cls := .type "range", data := .fields #[.int i t, .int j u, .int c v] }).get? s.heap.objs.size = some { cls := .type "range", data := .fields #[.int i t, .int j u, .int c v] } := Heap.get?_push_size _ rfl
  exact I.laid (fun b o q => Heap.get?_push_of_some _ q) (Nat.le_refl _) ⟨⟨t, u, v, e⟩, ⟨_, e⟩, RngAt.stay⟩
end
section
variable {X : Cx}
def rRange1 : List V → Hp → VK → Prop := fun xs H Q => ∃ j : Int, xs = [.int j] ∧ ∀ l, H l = none → Q (.ref l) (upd H l (.ext (RngAt l 0 j 1)))
theorem call_range1 : CallR X (.type "range") rRange1 := by
  intro pins s σ H xs us Q I r h
  obtain ⟨j, rfl, q⟩ := h
  obtain ⟨u, rfl, t, rfl⟩ := vals1 r
  exact call_range_1 ⟨.ref _, _, I.rngNew, rfl, q _ I.fresh⟩
def rRange3 : List V → Hp → VK → Prop := fun xs H Q => ∃ i j c : Int, xs = [.int i, .int j, .int c] ∧ c ≠ 0 ∧ c.natAbs < 1073741824 ∧ ∀ l, H l = none → Q (.ref l) (upd H l (.ext (RngAt l i j c)))
theorem call_range3 : CallR X (.type "range") rRange3 := by
  intro pins s σ H xs us Q I r h
  obtain ⟨i, j, c, rfl, c0, c1, q⟩ := h
  cases r with
  | cons r rr =>
    cases rr with
    | cons r' rr =>
      cases rr with
      | cons r'' rr =>
        cases rr
        obtain ⟨t, rfl⟩ := r
        obtain ⟨t', rfl⟩ := r'
        obtain ⟨t'', rfl⟩ := r''
        exact call_range_3 c0 ⟨.ref _, _, I.rngNew, rfl, q _ I.fresh⟩ (.inl (PyProof.noPylong_small c1))
def rListR : List V → Hp → VK → Prop := fun xs H Q => ∃ (l : Addr) (i j c : Int) (n : Nat), xs = [.ref l] ∧ H l = some (.ext (RngAt l i j c)) ∧ RgC i j c n ∧ n ≤ 1000000 ∧ ∀ p, H p = none → Q (.ref p) (upd H p (.lst ((List.range n).map fun k => .int (i + (k : Nat) * c))))
theorem vals_items {f : Nat → Int} {n : Nat} {acc : Array Value} (h : ItemsOf (fun i v => ∃ t, v = .int (f i) t) acc n) : Vals ((List.range n).map fun k => V.int (f k)) acc.toList := by
  obtain ⟨h1, h2⟩ := h
  have key : ∀ (m : Nat) (l : List Value) (g : Nat → Int), l.length = m → (∀ (i : Nat) (v : Value), l[i]? = some v → ∃ t, v = Value.int (g i) t) → Vals ((List.range m).map fun k => V.int (g k)) l := by
    intro m
    induction m with
    | zero => intro l g hl _; cases l with
      | nil => exact .nil
      | cons a r => simp at hl
    | succ m ih =>
      intro l g hl hg
      cases l with
      | nil => simp at hl
      | cons a r =>
        rw [List.range_succ_eq_map, List.map_cons, List.map_map]
        refine .cons (hg 0 a rfl) ?_
        exact ih r (fun k => g (k + 1)) (by simpa using hl) fun i v e => hg (i + 1) v e
  exact key n acc.toList f (by rw [Array.length_toList]; exact h1) fun i v e => h2 i v (by rw [← Array.getElem?_toList]; exact e)
theorem call_listR (hc : X.calm = true) : CallR X (.type "list") rListR := by
  intro pins s σ H xs us Q I r h
  obtain ⟨l, i, j, c, n, rfl, hl, ⟨c0, c1, c2, c3⟩, hn, q⟩ := h
  obtain ⟨u, rfl, rx⟩ := vals1 r
  cases rx
  obtain ⟨⟨t, u, v, e⟩, _⟩ := I.hok l _ hl
  refine call_list_range (I.ok.hd hc) (show IsRange s.heap l i j c t u v from e) c2 c3 (by omega) fun h' tk acc' c' hk hS hI => ?_
  refine ⟨.ref s.heap.objs.size, _, I.laid (t' := tk) hk (Nat.le_refl _) (show ObjOk X.prog X.w _ h' _ (.lst ((List.range n).map fun k => .int (i + (k : Nat) * c))) from ⟨?_, acc'.toList, c', vals_items hI, by rw [hS]⟩), rfl, q _ I.fresh⟩
  rw [List.length_map, List.length_range, sizeLine_eq]
  omega
/-! ### sets -/
def SetX (w : World) (l : Addr) (ns : List Int) (h : Heap) : Prop := My.SetL w h l ns
def rSet (K : PySem.W.Frag) (w : World) : List V → Hp → VK → Prop := fun xs H Q => ∃ (a : Addr) (ns : List Int), xs = [.ref a] ∧ SqL K H a (ns.map V.int) ∧ ns.length ≤ 4000 ∧ ∀ l, H l = none → Q (.ref l) (upd H l (.ext (SetX w l ns)))
theorem call_set (hc : X.calm = true) : CallR X (.type "set") (rSet X.K X.w) := by
  intro pins s σ H xs us Q I r h
  obtain ⟨a, ns, rfl, hs, hn, q⟩ := h
  obtain ⟨u, rfl, rx⟩ := vals1 r
  cases rx
  obtain ⟨its, rv, hl, _⟩ := I.list hs
  have hi := rv.ints
  have hlen := rv.length
  rw [List.length_map] at hlen
  refine My.set_ok (I.ok.hd hc) hl.isList (by simpa using hi) (by rw [List.size_toArray, ← hlen]; show ns.length + 1 < 4096; omega) fun h' tk hS hk => ?_
  refine ⟨.ref s.heap.objs.size, _, I.laid (t' := tk) hk (Nat.le_refl _) (show ObjOk X.prog X.w _ h' _ (.ext (SetX X.w s.heap.objs.size ns)) from ⟨hS, ?_, fun h1 h2 z k => My.SetL.at' z k⟩), rfl, q _ I.fresh⟩
  obtain ⟨o, es, ep, t, S, _⟩ := hS
  exact ⟨o, S.ho⟩
/-- len(set): the number of those that differ -/
def rLenSet (w : World) : List V → Hp → VK → Prop := fun xs H Q => ∃ (l : Addr) (ns : List Int), xs = [.ref l] ∧ H l = some (.ext (SetX w l ns)) ∧ ∀ (ms : List Int), ms.Nodup → (∀ k, k ∈ ms ↔ k ∈ ns) → Q (.int ms.length) H
theorem call_lenSet : CallR X (.builtin "len") (rLenSet X.w) := by
  intro pins s σ H xs us Q I r h
  obtain ⟨l, ns, rfl, hl, q⟩ := h
  obtain ⟨u, rfl, rx⟩ := vals1 r
  cases rx
  obtain ⟨⟨o, es, ep, t, S, mem⟩, _⟩ := I.hok l _ hl
  have q' := q (es.toList.map My.keyI) S.nd mem
  rw [List.length_map, Array.length_toList] at q'
  have hf := S.few
  refine call_len_set S.ho S.ex S.hd S.fits (by have : es.size < 4096 := hf; omega) ?_
  exact ⟨.int es.size, H, I.tok _, ⟨_, rfl⟩, q'⟩
/-- sorted(set) -/
def rSortedSet (w : World) : List V → Hp → VK → Prop := fun xs H Q => ∃ (l : Addr) (ns : List Int), xs = [.ref l] ∧ H l = some (.ext (SetX w l ns)) ∧ ∀ (ms : List Int) (p : Addr), ms.Pairwise (· < ·) → (∀ k, k ∈ ms ↔ k ∈ ns) → H p = none → Q (.ref p) (upd H p (.lst (ms.map V.int)))
theorem call_sortedSet (hc : X.calm = true) : CallR X (.builtin "sorted") (rSortedSet X.w) := by
  intro pins s σ H xs us Q I r h
  obtain ⟨l, ns, rfl, hl, q⟩ := h
  obtain ⟨u, rfl, rx⟩ := vals1 r
  cases rx
  obtain ⟨⟨o, es, ep, t, S, mem⟩, _⟩ := I.hok l _ hl
  refine Calls.call_function_entry kind_sorted plain_sorted entry_sorted (args_sorted1 _) ?_
  unfold Builtin.«sorted»
  refine wpAny_bind (m := checkCount "sorted" 1 1 _) (wpAny_pure ?_)
  refine wpAny_bind (My.collect_ok (by exact I.ok.hd hc) S fun h' tk d vs ks hk hv hlen hp hsz => ?_)
  have hf : es.size < 4096 := S.few
  have hkl : ks.length = es.size := by rw [hp.length_eq, List.length_map, Array.length_toList]
  have hI : IntsAre vs ks := My.intsAre_of vs ks (by omega) hv
  have hl2 : vs.length ≤ sizeLine := by rw [sizeLine_eq]; omega
  have I1 : Inv X pins σ H { s with heap := h', toks := tk, drawn := d } := I.keptD hk
  refine wpAny_bind (wpAny_newList ?_ hl2)
  have hoL : (h'.push (seqObj "list" vs.toArray 0)).get? h'.objs.size = some (seqObj "list" vs.toArray 0) := Heap.get?_push_size _ rfl
  refine wpAny_bind (wpAny_holding (wpAny_call_entry slot_list_sort ⟨_, hoL, rfl⟩ entry_list_sort (list_sort_treeAny hoL hI hl2 fun out ns' a1 a2 a3 => ⟨_, rfl, ?_⟩) (args_list_sort _)))
  refine wpAny_pure ⟨_, rfl, ?_⟩
  obtain ⟨ep', he'⟩ := PyProof.Rows.sortedHeap_at (vs := vs) (out := out) hoL
  have nd : ns'.Nodup := (a2.nodup_iff).mpr (hp.nodup_iff.mpr S.nd)
  have pw : ns'.Pairwise (· < ·) := My.strict_of a3 nd
  have hlen' : (ns'.map V.int).length ≤ sizeLine := by rw [List.length_map, a2.length_eq, hkl, sizeLine_eq]; omega
  refine ⟨.ref h'.objs.size, upd H h'.objs.size (.lst (ns'.map V.int)), I1.laid (t' := tk) (fun b u e => ?_) (Nat.le_refl _) ⟨hlen', out.toList, ep', vals_of_ints a1, he'⟩, rfl, q ns' _ pw (fun k => ?_) (I1.hok.fresh (Nat.le_refl _))⟩
  · have hb : b < h'.objs.size := Heap.lt_size e
    rw [PyProof.Rows.sortedHeap_old (Nat.ne_of_lt hb) (Nat.lt_of_lt_of_le hb (by rw [Heap.size_push]; exact Nat.le_succ _))]
    exact Heap.get?_push_of_some _ e
  · rw [a2.mem_iff, hp.mem_iff, mem k]
end
end L2
end
section
section
set_option Elab.async false
set_option linter.all false
set_option maxRecDepth 100000
set_option maxHeartbeats 2000000
namespace L2
open PySem PySem.Spec PyProof.Rows
open PySem.W (WData Codec OpenSpec Well WellAll ReadsW ReadsAllW)
/-! ### an answer as data -/
mutual
/-- x stands for the datum d, lists and tuples all the way -/
inductive Dw (K : PySem.W.Frag) (H : Hp) : V → WData → Prop
  | non : Dw K H .non .none
  | bl (b : Bool) : Dw K H (.bl b) (.bool b)
  | int (i : Int) : Dw K H (.int i) (.int i)
  | str (x : Str) : Dw K H (.str x) (.str x)
  | byt (b : Array UInt8) : Dw K H (.byt b) (.bytes b.toList)
  | lst {a : Addr} {xs : List V} {ds : List WData} : SqL K H a xs → DwAll K H xs ds → Dw K H (.ref a) (.list ds)
  | tup {a : Addr} {xs : List V} {ds : List WData} : SqT K H a xs → DwAll K H xs ds → Dw K H (.ref a) (.tuple ds)
inductive DwAll (K : PySem.W.Frag) (H : Hp) : List V → List WData → Prop
  | nil : DwAll K H [] []
  | cons {v : V} {vs : List V} {d : WData} {ds : List WData} : Dw K H v d → DwAll K H vs ds → DwAll K H (v :: vs) (d :: ds)
end
theorem dw_ints {K : PySem.W.Frag} {H : Hp} : ∀ ns : List Int, DwAll K H (ns.map V.int) (ns.map WData.int)
  | [] => .nil
  | n :: r => .cons (.int n) (dw_ints r)
theorem ints_dw {K : PySem.W.Frag} {H : Hp} : ∀ (ns : List Int) (xs : List V), DwAll K H xs (ns.map WData.int) → xs = ns.map V.int
  | [], xs, h => by
    cases h
    rfl
  | n :: r, xs, h => by
    cases h with
    | cons h1 h2 =>
      cases h1
      rw [ints_dw r _ h2] <;> rfl
section
variable {P : Program} {w : World} {K : PySem.W.Frag} {H : Hp} {h : Heap} {R : PySem.W.WRecords} {cl : Str → Option Addr}
theorem sqL_at {a : Addr} {xs : List V} (hok : HOk P w H h) (KX : K.In h) (q : SqL K H a xs) : ∃ (its : List Value) (o : Obj) (n : Nat), Vals xs its ∧ h.get? a = some o ∧ o.cls = .type "list" ∧ o.data = .seq its.toArray n := by
  rcases q with q | ⟨o, its, n, e, hc, _, hd, _, hv⟩
  · obtain ⟨_, its, n, hv, e⟩ := (show ObjOk P w H h a (.lst xs) from q.ok hok)
    exact ⟨its, _, n, hv, e, rfl, rfl⟩
  · exact ⟨its.toList, o, n, hv, KX _ _ e, hc, by simp [hd]⟩
theorem sqT_at {a : Addr} {xs : List V} (hok : HOk P w H h) (KX : K.In h) (q : SqT K H a xs) : ∃ (its : List Value) (o : Obj) (n : Nat), Vals xs its ∧ h.get? a = some o ∧ o.cls = .type "tuple" ∧ o.data = .seq its.toArray n := by
  rcases q with q | ⟨o, its, n, e, hc, hd, _, hv⟩
  · obtain ⟨_, its, hv, o, e, hc, n, hd⟩ := (show ObjOk P w H h a (.tup xs) from q.ok hok)
    exact ⟨its, o, n, hv, e, hc, hd⟩
  · exact ⟨its.toList, o, n, hv, KX _ _ e, hc, by simp [hd]⟩
mutual
theorem Dw.reads (hok : HOk P w H h) (KX : K.In h) : ∀ (d : WData) (v : V) (u : Value), Dw K H v d → RelV v u → ∃ as, ReadsW R cl h u d as
  | .none, _, _, x, r => by
    cases x
    cases r
    exact ⟨_, ReadsW.none⟩
  | .bool b, _, _, x, r => by
    cases x
    cases r
    exact ⟨_, ReadsW.bool b⟩
  | .int i, _, _, x, r => by
    cases x
    obtain ⟨t, rfl⟩ := r
    exact ⟨_, ReadsW.int i t⟩
  | .str s, _, _, x, r => by
    cases x
    obtain ⟨t, rfl⟩ := r
    exact ⟨_, ReadsW.str s t⟩
  | .bytes b, _, _, x, r => by
    cases x
    obtain ⟨t, rfl⟩ := r
    exact ⟨_, ReadsW.bytes _ t⟩
  | .list ds, _, _, x, r => by
    cases x with
    | lst hs ha =>
      cases r
      obtain ⟨its, o, n, rv, ho, hc, hd⟩ := sqL_at hok KX hs
      obtain ⟨as, hr⟩ := Dw.readsAll hok KX ds _ its ha rv
      exact ⟨_, ReadsW.list ho hc hd hr⟩
  | .tuple ds, _, _, x, r => by
    cases x with
    | tup hs ha =>
      cases r
      obtain ⟨its, o, n, rv, ho, hc, hd⟩ := sqT_at hok KX hs
      obtain ⟨as, hr⟩ := Dw.readsAll hok KX ds _ its ha rv
      exact ⟨_, ReadsW.tuple ho hc hd hr⟩
  | .float _, _, _, x, _ => by cases x
  | .dict _, _, _, x, _ => by cases x
  | .bytearray _, _, _, x, _ => by cases x
  | .set _, _, _, x, _ => by cases x
  | .frozenset _, _, _, x, _ => by cases x
  | .obj _ _, _, _, x, _ => by cases x
theorem Dw.readsAll (hok : HOk P w H h) (KX : K.In h) : ∀ (ds : List WData) (vs : List V) (us : List Value), DwAll K H vs ds → Vals vs us → ∃ as, ReadsAllW R cl h us ds as
  | [], _, _, x, r => by
    cases x
    cases r
    exact ⟨_, ReadsAllW.nil⟩
  | d :: ds, _, _, x, r => by
    cases x with
    | cons h1 h2 =>
      cases r with
      | cons r1 r2 =>
        obtain ⟨as, q1⟩ := Dw.reads hok KX d _ _ h1 r1
        obtain ⟨bs, q2⟩ := Dw.readsAll hok KX ds _ _ h2 r2
        exact ⟨_, ReadsAllW.cons q1 q2⟩
end
end
/-! ### the arguments -/
mutual
/-- data that a codec tells -/
def plW : WData → Bool
  | .none => true
  | .bool _ => true
  | .int _ => true
  | .str _ => true
  | .bytes _ => true
  | .list xs => plWs xs
  | .tuple xs => plWs xs
  | _ => false
def plWs : List WData → Bool
  | [] => true
  | x :: r => plW x && plWs r
end
theorem plWs_map {α : Type} {f : α → WData} (h : ∀ a, plW (f a) = true) : ∀ l : List α, plWs (l.map f) = true
  | [] => rfl
  | x :: r => by
    show (plW (f x) && plWs (r.map f)) = true
    rw [h x, plWs_map h r] <;> rfl
theorem pl_enc : ∀ (c : Codec) (a : c.denote), plW (c.enc a) = true
  | .unit, _ => rfl
  | .bool, _ => rfl
  | .int _ _, _ => rfl
  | .nat _ _, _ => rfl
  | .u8, _ => rfl
  | .bytes _ _, _ => rfl
  | .text _ _ _ _, _ => rfl
  | .list _ _ c, a => plWs_map (fun x => pl_enc c x) a
  | .pair c d, a => by
    show (plW (c.enc a.1) && (plW (d.enc a.2) && true)) = true
    rw [pl_enc c a.1, pl_enc d a.2] <;> rfl
  | .triple c d e, a => by
    show (plW (c.enc a.1) && (plW (d.enc a.2.1) && (plW (e.enc a.2.2) && true))) = true
    rw [pl_enc c a.1, pl_enc d a.2.1, pl_enc e a.2.2] <;> rfl
  | .option c, none => rfl
  | .option c, some x => pl_enc c x
theorem pl_encAll : ∀ (cs : List Codec) (a : Codec.denoteAll cs), plWs (Codec.encAll cs a) = true
  | [], _ => rfl
  | c :: cs, a => by
    show (plW (c.enc a.1) && plWs (Codec.encAll cs a.2)) = true
    rw [pl_enc c a.1, pl_encAll cs a.2] <;> rfl
theorem weight_mem : ∀ {xs : List WData} {d : WData}, d ∈ xs → d.weight ≤ WData.weightAll xs
  | [], d, h => absurd h (by simp)
  | x :: r, d, h => by
    show d.weight ≤ x.weight + 1 + WData.weightAll r
    rcases List.mem_cons.mp h with e | m
    · rw [e]
      omega
    · have z := weight_mem m
      omega
def toV : Value → V
  | .none => .non
  | .bool b => .bl b
  | .int i _ => .int i
  | .str x _ => .str x
  | .bytes b _ => .byt b
  | .ref a => .ref a
  | _ => .non
/-- a value of the arguments, its objects among A -/
def OkU (A : List Addr) : Value → Prop
  | .none => True
  | .bool _ => True
  | .int _ _ => True
  | .str _ _ => True
  | .bytes _ _ => True
  | .ref a => a ∈ A
  | _ => False
theorem OkU.mono {A B : List Addr} (h : ∀ a ∈ A, a ∈ B) : ∀ {u : Value}, OkU A u → OkU B u := fun {u} x => by
  cases u with
  | ref a => exact h a x
  | none => trivial
  | bool b => trivial
  | int i t => trivial
  | str s t => trivial
  | bytes b t => trivial
  | _ => exact False.elim x
theorem relV_toV {A : List Addr} {u : Value} (x : OkU A u) : RelV (toV u) u := by
  cases u with
  | ref a => rfl
  | none => rfl
  | bool b => rfl
  | int i t => exact ⟨t, rfl⟩
  | str s t => exact ⟨t, rfl⟩
  | bytes b t => exact ⟨t, rfl⟩
  | _ => exact False.elim x
theorem vals_toV {A : List Addr} : ∀ {vs : List Value}, (∀ u ∈ vs, OkU A u) → Vals (vs.map toV) vs
  | [], _ => .nil
  | u :: r, h => .cons (relV_toV (h u (List.mem_cons_self ..))) (vals_toV fun x hx => h x (List.mem_cons_of_mem _ hx))
/-- an object of the arguments -/
def ArgOb (h : Heap) (A : List Addr) (a : Addr) : Prop := ∃ vs : List Value, vs.length ≤ sizeLine ∧ (∀ u ∈ vs, OkU A u) ∧
  (h.get? a = some { cls := .type "list", data := .seq vs.toArray } ∨ h.get? a = some { cls := .type "tuple", data := .seq vs.toArray })
theorem ArgOb.mono {h : Heap} {A B : List Addr} {a : Addr} (k : ∀ a ∈ A, a ∈ B) (x : ArgOb h A a) : ArgOb h B a := by
  obtain ⟨vs, h1, h2, h3⟩ := x
  exact ⟨vs, h1, fun u hu => (h2 u hu).mono k, h3⟩
theorem wellAll_len {P : Params} {h : Heap} : ∀ {vs : List Value} {ds : List WData}, WellAll P h vs ds → vs.length = ds.length
  | _, _, .nil => rfl
  | _, _, .cons _ b => by
    show _ + 1 = _ + 1
    rw [wellAll_len b]
theorem well_list {P : Params} {h : Heap} {v : Value} {ds : List WData} (x : Well P h v (.list ds)) : ∃ (a : Addr) (vs : List Value), v = .ref a ∧ h.get? a = some { cls := .type "list", data := .seq vs.toArray } ∧ WellAll P h vs ds := by
  cases x with
  | list ho hall => exact ⟨_, _, rfl, ho, hall⟩
theorem well_tuple {P : Params} {h : Heap} {v : Value} {ds : List WData} (x : Well P h v (.tuple ds)) : ∃ (a : Addr) (vs : List Value), v = .ref a ∧ h.get? a = some { cls := .type "tuple", data := .seq vs.toArray } ∧ WellAll P h vs ds := by
  cases x with
  | tuple ho hall => exact ⟨_, _, rfl, ho, hall⟩
theorem well_cons {P : Params} {h : Heap} {us : List Value} {d : WData} {ds : List WData} (x : WellAll P h us (d :: ds)) : ∃ (v : Value) (vs : List Value), us = v :: vs ∧ Well P h v d ∧ WellAll P h vs ds := by
  cases x with
  | cons a b => exact ⟨_, _, rfl, a, b⟩
theorem line_of {n : Nat} (h : n ≤ 1048576) : n ≤ sizeLine := Nat.le_trans h (by decide)
section
variable {P : Params} {h : Heap}
mutual
theorem area_one : ∀ (d : WData) (v : Value), Well P h v d → plW d = true → d.weight ≤ 1048576 → ∃ A : List Addr, OkU A v ∧ ∀ a ∈ A, ArgOb h A a
  | .none, _, x, _, _ => by
    cases x
    exact ⟨[], trivial, fun a m => absurd m (by simp)⟩
  | .bool b, _, x, _, _ => by
    cases x
    exact ⟨[], trivial, fun a m => absurd m (by simp)⟩
  | .int i, _, x, _, _ => by
    cases x
    exact ⟨[], trivial, fun a m => absurd m (by simp)⟩
  | .str s, _, x, _, _ => by
    cases x
    exact ⟨[], trivial, fun a m => absurd m (by simp)⟩
  | .bytes b, _, x, _, _ => by
    cases x
    exact ⟨[], trivial, fun a m => absurd m (by simp)⟩
  | .list ds, _, x, p, z => by
    obtain ⟨a, vs, rfl, ho, hall⟩ := well_list x
    have z2 : WData.weightAll ds ≤ 1048576 := z
    obtain ⟨A, h1, h2⟩ := area_all ds _ hall p fun d hd => Nat.le_trans (weight_mem hd) z2
    have k : ∀ b ∈ A, b ∈ a :: A := fun b hb => List.mem_cons_of_mem _ hb
    refine ⟨a :: A, List.mem_cons_self .., fun b hb => ?_⟩
    rcases List.mem_cons.mp hb with e | m
    · rw [e]
      exact ⟨vs, line_of (by rw [wellAll_len hall]; exact Nat.le_trans (PySem.W.length_le_weightAllW ds) z2), fun u hu => (h1 u hu).mono k, .inl ho⟩
    · exact (h2 b m).mono k
  | .tuple ds, _, x, p, z => by
    obtain ⟨a, vs, rfl, ho, hall⟩ := well_tuple x
    have z2 : WData.weightAll ds ≤ 1048576 := z
    obtain ⟨A, h1, h2⟩ := area_all ds _ hall p fun d hd => Nat.le_trans (weight_mem hd) z2
    have k : ∀ b ∈ A, b ∈ a :: A := fun b hb => List.mem_cons_of_mem _ hb
    refine ⟨a :: A, List.mem_cons_self .., fun b hb => ?_⟩
    rcases List.mem_cons.mp hb with e | m
    · rw [e]
      exact ⟨vs, line_of (by rw [wellAll_len hall]; exact Nat.le_trans (PySem.W.length_le_weightAllW ds) z2), fun u hu => (h1 u hu).mono k, .inr ho⟩
    · exact (h2 b m).mono k
  | .float _, _, _, p, _ => Bool.noConfusion (show false = true from p)
  | .dict _, _, _, p, _ => Bool.noConfusion (show false = true from p)
  | .bytearray _, _, _, p, _ => Bool.noConfusion (show false = true from p)
  | .set _, _, _, p, _ => Bool.noConfusion (show false = true from p)
  | .frozenset _, _, _, p, _ => Bool.noConfusion (show false = true from p)
  | .obj _ _, _, _, p, _ => Bool.noConfusion (show false = true from p)
theorem area_all : ∀ (ds : List WData) (vs : List Value), WellAll P h vs ds → plWs ds = true → (∀ d ∈ ds, d.weight ≤ 1048576) → ∃ A : List Addr, (∀ u ∈ vs, OkU A u) ∧ ∀ a ∈ A, ArgOb h A a
  | [], _, x, _, _ => by
    cases x
    exact ⟨[], fun u m => absurd m (by simp), fun a m => absurd m (by simp)⟩
  | d :: ds, _, x, p, z => by
    obtain ⟨v, vs, rfl, x1, x2⟩ := well_cons x
    have q : plW d = true ∧ plWs ds = true := Bool.and_eq_true_iff.mp p
    obtain ⟨A, a1, a2⟩ := area_one d v x1 q.1 (z d (List.mem_cons_self ..))
    obtain ⟨B, b1, b2⟩ := area_all ds vs x2 q.2 fun e he => z e (List.mem_cons_of_mem _ he)
    have kA : ∀ b ∈ A, b ∈ A ++ B := fun b hb => List.mem_append.mpr (.inl hb)
    have kB : ∀ b ∈ B, b ∈ A ++ B := fun b hb => List.mem_append.mpr (.inr hb)
    refine ⟨A ++ B, fun u hu => ?_, fun b hb => ?_⟩
    · rcases List.mem_cons.mp hu with e | m
      · rw [e]
        exact a1.mono kA
      · exact (b1 u m).mono kB
    · rcases List.mem_append.mp hb with m | m
      · exact (a2 b m).mono kA
      · exact (b2 b m).mono kB
end
end
/-- what is tracked of an argument's object -/
def hoOf (o : Obj) : Option HO := match o.data with
  | .seq vs _ => if (o.cls == Value.type "list") = true then some (.frz o (.lst (vs.toList.map toV))) else some (.frz o (.tup (vs.toList.map toV)))
  | _ => none
def argH (K : PySem.W.Frag) (h : Heap) (A : List Addr) : Hp := fun b => if b ∈ A then (if (K.lookup b).isNone = true then (h.get? b).bind hoOf else none) else none
/-- nothing is tracked but what is known to the object -/
def OnlyF (H : Hp) : Prop := ∀ b, H b = none ∨ ∃ o u, H b = some (.frz o u)
theorem hoOf_lst (vs : List Value) : hoOf { cls := .type "list", data := .seq vs.toArray } = some (.frz { cls := .type "list", data := .seq vs.toArray } (.lst (vs.map toV))) := by
  show (if (Value.type "list" == Value.type "list") = true then some (HO.frz { cls := .type "list", data := .seq vs.toArray } (.lst (vs.toArray.toList.map toV))) else some (HO.frz { cls := .type "list", data := .seq vs.toArray } (.tup (vs.toArray.toList.map toV)))) = _
  rw [if_pos (beq_self_eq_true _)]
theorem hoOf_tup (vs : List Value) : hoOf { cls := .type "tuple", data := .seq vs.toArray } = some (.frz { cls := .type "tuple", data := .seq vs.toArray } (.tup (vs.map toV))) := by
  show (if (Value.type "tuple" == Value.type "list") = true then some (HO.frz { cls := .type "tuple", data := .seq vs.toArray } (.lst (vs.toArray.toList.map toV))) else some (HO.frz { cls := .type "tuple", data := .seq vs.toArray } (.tup (vs.toArray.toList.map toV)))) = _
  rw [if_neg (by decide)]
section
variable {P : Program} {w : World} {K : PySem.W.Frag} {h : Heap} {A : List Addr}
theorem argH_at {b : Addr} {o : Obj} (hb : b ∈ A) (hk : K.lookup b = none) (e : h.get? b = some o) : argH K h A b = hoOf o := by
  unfold argH
  rw [if_pos hb, hk, if_pos (show (none : Option Obj).isNone = true from rfl), e] <;> rfl
theorem of_argH {b : Addr} {u : HO} (q : argH K h A b = some u) : b ∈ A ∧ K.lookup b = none := by
  unfold argH at q
  by_cases hb : b ∈ A
  · rw [if_pos hb] at q
    cases hk : K.lookup b with
    | none => exact ⟨hb, rfl⟩
    | some o =>
      rw [hk, if_neg (by simp)] at q
      cases q
  · rw [if_neg hb] at q
    cases q
/-- what stands tracked -/
theorem argH_is (ar : ∀ a ∈ A, ArgOb h A a) {b : Addr} {u : HO} (q : argH K h A b = some u) : K.lookup b = none ∧ ∃ vs : List Value, vs.length ≤ sizeLine ∧ (∀ u ∈ vs, OkU A u) ∧
    ((h.get? b = some { cls := .type "list", data := .seq vs.toArray } ∧ u = .frz { cls := .type "list", data := .seq vs.toArray } (.lst (vs.map toV))) ∨
     (h.get? b = some { cls := .type "tuple", data := .seq vs.toArray } ∧ u = .frz { cls := .type "tuple", data := .seq vs.toArray } (.tup (vs.map toV)))) := by
  obtain ⟨hb, hk⟩ := of_argH q
  obtain ⟨vs, h1, h2, h3⟩ := ar b hb
  refine ⟨hk, vs, h1, h2, ?_⟩
  rcases h3 with e | e
  · rw [argH_at hb hk e, hoOf_lst] at q
    exact .inl ⟨e, (Option.some.inj q).symm⟩
  · rw [argH_at hb hk e, hoOf_tup] at q
    exact .inr ⟨e, (Option.some.inj q).symm⟩
theorem argH_only (ar : ∀ a ∈ A, ArgOb h A a) : OnlyF (argH K h A) := fun b => by
  cases q : argH K h A b with
  | none => exact .inl rfl
  | some u =>
    obtain ⟨_, vs, _, _, ⟨_, e⟩ | ⟨_, e⟩⟩ := argH_is ar q
    · exact .inr ⟨_, _, by rw [e]⟩
    · exact .inr ⟨_, _, by rw [e]⟩
theorem argH_ok (ar : ∀ a ∈ A, ArgOb h A a) : HOk P w (argH K h A) h := fun b u q => by
  obtain ⟨_, vs, h1, h2, ⟨e, rfl⟩ | ⟨e, rfl⟩⟩ := argH_is ar q
  · exact ⟨e, by rw [List.length_map]; exact h1, vs, _, vals_toV h2, e⟩
  · exact ⟨e, by rw [List.length_map]; exact h1, vs, vals_toV h2, _, e, rfl, _, rfl⟩
theorem seq_inj {c c' : Value} {vs us : List Value} (e : (some { cls := c, data := .seq vs.toArray } : Option Obj) = some { cls := c', data := .seq us.toArray }) : c = c' ∧ vs = us := by
  have e1 := Option.some.inj e
  have e2 : c = c' := congrArg Obj.cls e1
  have e3 : Data.seq vs.toArray = Data.seq us.toArray := congrArg Obj.data e1
  injection e3 with e4
  refine ⟨e2, ?_⟩
  have e5 := congrArg Array.toList e4
  simpa using e5
/-- a list argument -/
theorem argL (KX : K.In h) (ar : ∀ a ∈ A, ArgOb h A a) {a : Addr} {vs : List Value} (ha : a ∈ A) (e : h.get? a = some { cls := .type "list", data := .seq vs.toArray }) : (∀ u ∈ vs, OkU A u) ∧ SqL K (argH K h A) a (vs.map toV) := by
  obtain ⟨us, h1, h2, h3⟩ := ar a ha
  have hu : us = vs := by
    rcases h3 with q | q
    · rw [e] at q
      exact (seq_inj q).2.symm
    · rw [e] at q
      exact absurd (Value.type.inj (seq_inj q).1) (by decide)
  subst hu
  refine ⟨h2, ?_⟩
  cases hk : K.lookup a with
  | none => exact .inl (.inr ⟨_, by rw [argH_at ha hk e, hoOf_lst]⟩)
  | some o =>
    have e2 := KX a o hk
    rw [e] at e2
    obtain rfl := Option.some.inj e2
    exact .inr ⟨_, us.toArray, _, hk, rfl, rfl, rfl, by rw [List.size_toArray]; exact h1, by simpa using vals_toV h2⟩
theorem argT (KX : K.In h) (ar : ∀ a ∈ A, ArgOb h A a) {a : Addr} {vs : List Value} (ha : a ∈ A) (e : h.get? a = some { cls := .type "tuple", data := .seq vs.toArray }) : (∀ u ∈ vs, OkU A u) ∧ SqT K (argH K h A) a (vs.map toV) := by
  obtain ⟨us, h1, h2, h3⟩ := ar a ha
  have hu : us = vs := by
    rcases h3 with q | q
    · rw [e] at q
      exact absurd (Value.type.inj (seq_inj q).1) (by decide)
    · rw [e] at q
      exact (seq_inj q).2.symm
  subst hu
  refine ⟨h2, ?_⟩
  cases hk : K.lookup a with
  | none => exact .inl (.inr ⟨_, by rw [argH_at ha hk e, hoOf_tup]⟩)
  | some o =>
    have e2 := KX a o hk
    rw [e] at e2
    obtain rfl := Option.some.inj e2
    exact .inr ⟨_, us.toArray, _, hk, rfl, rfl, by rw [List.size_toArray]; exact h1, by simpa using vals_toV h2⟩
mutual
theorem dw_one {Pm : Params} (KX : K.In h) (ar : ∀ a ∈ A, ArgOb h A a) : ∀ (d : WData) (v : Value), Well Pm h v d → plW d = true → OkU A v → Dw K (argH K h A) (toV v) d
  | .none, _, x, _, _ => by
    cases x
    exact .non
  | .bool b, _, x, _, _ => by
    cases x
    exact .bl b
  | .int i, _, x, _, _ => by
    cases x
    exact .int i
  | .str s, _, x, _, _ => by
    cases x
    exact .str s
  | .bytes b, _, x, _, _ => by
    cases x
    have z := Dw.byt (K := K) (H := argH K h A) b.toArray
    exact z
  | .list ds, _, x, p, hu => by
    obtain ⟨a, vs, rfl, ho, hall⟩ := well_list x
    obtain ⟨h2, hs⟩ := argL KX ar hu ho
    exact .lst hs (dw_all KX ar ds _ hall p h2)
  | .tuple ds, _, x, p, hu => by
    obtain ⟨a, vs, rfl, ho, hall⟩ := well_tuple x
    obtain ⟨h2, hs⟩ := argT KX ar hu ho
    exact .tup hs (dw_all KX ar ds _ hall p h2)
  | .float _, _, _, p, _ => Bool.noConfusion (show false = true from p)
  | .dict _, _, _, p, _ => Bool.noConfusion (show false = true from p)
  | .bytearray _, _, _, p, _ => Bool.noConfusion (show false = true from p)
  | .set _, _, _, p, _ => Bool.noConfusion (show false = true from p)
  | .frozenset _, _, _, p, _ => Bool.noConfusion (show false = true from p)
  | .obj _ _, _, _, p, _ => Bool.noConfusion (show false = true from p)
theorem dw_all {Pm : Params} (KX : K.In h) (ar : ∀ a ∈ A, ArgOb h A a) : ∀ (ds : List WData) (vs : List Value), WellAll Pm h vs ds → plWs ds = true → (∀ u ∈ vs, OkU A u) → DwAll K (argH K h A) (vs.map toV) ds
  | [], _, x, _, _ => by
    cases x
    exact .nil
  | d :: ds, _, x, p, hu => by
    obtain ⟨v, vs, rfl, x1, x2⟩ := well_cons x
    have q : plW d = true ∧ plWs ds = true := Bool.and_eq_true_iff.mp p
    exact .cons (dw_one KX ar d v x1 q.1 (hu _ (List.mem_cons_self ..))) (dw_all KX ar ds vs x2 q.2 fun u m => hu u (List.mem_cons_of_mem _ m))
end
end
/-! ### the call -/
theorem spec_call {P : Program} {w : World} {K : PySem.W.Frag} {mg mb : Str → Option Value} {CX : CXT} {k : Nat} {fa : Addr} {fd : FuncData} {ps : List Str} {sp : Sp} {s₁ : Shared} {vals : List Value} {ds : List WData} {R : PySem.W.WRecords} {cl : Str → Option Addr} {d0 : WData}
    (KX : K.In s₁.heap) (hns : s₁.heap.Ns mainGlobals mg) (hb : s₁.heap.Ns builtinsNs mb) (hbb : ∀ x : Str, x ≠ "__name__" → mb x = bootBuiltins x) (hlim : s₁.heap.NoLimit) (hg : s₁.gens = #[])
    (hwl : WellAll w.params s₁.heap vals ds) (hpl : plWs ds = true) (hwt : ∀ d ∈ ds, d.weight ≤ 1048576) (hr : Room k callerA)
    (F : ∀ base : Heap, K.In base → base.Ns mainGlobals mg → FnOk P w K mg base CX k fa fd ps sp) (hbind : ∀ (s : Shared) (us : List Value), us.length = ps.length → BindsTo s fd ⟨us, []⟩ (ps.zip us)) (hlen : ds.length = ps.length)
    (hsp : ∀ (H : Hp) (xs : List V), OnlyF H → DwAll K H xs ds → sp xs H (fun v H' => Dw K H' v d0) fun _ _ _ => False)
    (hCX : ∀ H e s', CX [] H s₁ (fun _ _ _ => False) e s' → False) :
    codeAny (model P w) callerA (.call (.ref fa) ⟨vals, []⟩) (fun r s' => ∃ u as, r = .ok (.ret u) ∧ ReadsW R cl s'.heap u d0 as ∧ OldK s₁.heap s'.heap ∧ s'.os = s₁.os ∧ AllBare s'.gens) s₁ := by
  obtain ⟨A, ho, ar⟩ := area_all ds vals hwl hpl hwt
  have hO : OnlyF (argH K s₁.heap A) := argH_only ar
  have hok : HOk P w (argH K s₁.heap A) s₁.heap := argH_ok ar
  have hS := dw_all KX ar ds vals hwl hpl ho
  have hV := vals_toV ho
  have hK : ∀ b u, argH K s₁.heap A b = some u → K.lookup b = none := fun b u q => (argH_is ar q).1
  have noA : ∀ {b : Addr} {o : Obj} {es : Array DictEntry} {ep : Nat}, s₁.heap.get? b = some o → o.data = .dict es ep → argH K s₁.heap A b = none := fun {b o es ep} e d => by
    cases q : argH K s₁.heap A b with
    | none => rfl
    | some u =>
      obtain ⟨_, vs, _, _, ⟨e2, _⟩ | ⟨e2, _⟩⟩ := argH_is ar q
      · rw [e2] at e
        cases e
        have d' : Data.seq vs.toArray _ = Data.dict es ep := d
        cases d'
      · rw [e2] at e
        cases e
        have d' : Data.seq vs.toArray _ = Data.dict es ep := d
        cases d'
  generalize argH K s₁.heap A = H at hO hok hS hK noA
  have base_of : ∀ {b : Addr} {o : Obj}, s₁.heap.get? b = some o → H b = none → (hidT s₁.heap H).get? b = some o := fun e n => hidT_get e n
  have nsK : ∀ {b : Addr} {m : Str → Option Value}, s₁.heap.Ns b m → (hidT s₁.heap H).Ns b m := fun {b m} ⟨o, es, ep, e, d, r⟩ => ⟨o, es, ep, base_of e (noA e d), d, r⟩
  have nK : ∀ b o, K.lookup b = some o → H b = none := fun b o e => by
    cases q : H b with
    | none => rfl
    | some u =>
      rw [hK b u q] at e
      cases e
  have hKb : K.In (hidT s₁.heap H) := fun b o e => base_of (KX b o e) (nK b o e)
  have hM : Mod K mg (hidT s₁.heap H) := ⟨hKb, nsK hns, ⟨mb, nsK hb, hbb⟩, let ⟨mc, h1, h2⟩ := hlim; ⟨mc, nsK h1, h2⟩⟩
  have e0 : Env0 P w K mg (hidT s₁.heap H) callerA [] s₁ H := ⟨rfl, hM, fun b o e => of_hidT e, Nat.le_of_eq (hidT_size _ _), trivial, fun b hb => absurd (show b ∈ ([] : List Addr) from hb) (by simp), hok, .of_eq hg⟩
  have hl : vals.length = ps.length := by rw [wellAll_len hwl]; exact hlen
  refine codeAny_mono ((F _ hKb (nsK hns)).run callerA [] s₁ H ⟨vals, []⟩ vals (vals.map toV) _ _ hr e0 (hbind s₁ vals hl) hV (hsp H _ hO hS)) fun r s' x => ?_
  cases r with
  | error e => exact (hCX H e s' x).elim
  | ok fl =>
    cases fl with
    | next => exact False.elim x
    | brk => exact False.elim x
    | cont => exact False.elim x
    | ret u =>
      obtain ⟨v, H', os, bare, un, hok', r', q⟩ := x
      have kept : ∀ b o, s₁.heap.get? b = some o → s'.heap.get? b = some o := fun b o e => by
        cases q2 : H b with
        | none => exact un.keep b o e q2 (by intro z; exact absurd (show b ∈ ([] : List Addr) from z) (by simp)) (by simp)
        | some u2 =>
          rcases hO b with z | ⟨ob, u3, z⟩
          · rw [q2] at z
            cases z
          · have z2 := un.frzs b ob _ z
            obtain ⟨e1, _⟩ := hok b _ z
            obtain ⟨e2, _⟩ := hok' b _ z2
            rw [e] at e1
            cases e1
            exact e2
      have KX' : K.In s'.heap := fun b o e => kept b o (KX b o e)
      obtain ⟨as, hrd⟩ := Dw.reads (R := R) (cl := cl) hok' KX' d0 v u q r'
      exact ⟨u, as, rfl, hrd, OldK.of_keep kept, os, bare⟩
/-! ### the row -/
theorem layable_weight {ds : List WData} (h : WData.layableAll ds = true) : ∀ d ∈ ds, d.weight ≤ 1048576 := fun d hd =>
  (PySem.W.layableW_iff.mp (List.all_eq_true.mp h d hd)).2.2
theorem encAll_len : ∀ (cs : List Codec) (a : Codec.denoteAll cs), (Codec.encAll cs a).length = cs.length
  | [], _ => rfl
  | c :: cs, a => by
    show (Codec.encAll cs a.2).length + 1 = cs.length + 1
    rw [encAll_len cs a.2]
/-- the goal that k_headS leaves (case hc), from the promise of the row's def: whatever the arguments that the codecs let and the row asks for, the def gives what stands for enc (f ..) -/
theorem walk_spec {r : OpenSpec} {k : Nat} {q : Program} {loose : List Str} {XP : (Str → Option Value) → Heap → Prop} {YP : World → Heap → Prop} {d : DefRec} {K : Params → PySem.W.Frag} {CX : World → CXT} {ps : List Str} {sp : World → Sp}
    (hwell : r.wellSaid = true) (hdf : d.params.defaults = []) (hlen : r.args.length = ps.length) (hr : Room k callerA)
    (hY : ∀ (w : World) (h : Heap), YP w h → (K w.params).In h)
    (F : ∀ (w : World) (mg : Str → Option Value) (fa : Addr) (h : Heap), YP w h → (K w.params).In h → h.Ns mainGlobals mg → mg d.name = some (.ref fa) →
      ∃ fd : FuncData, (∀ (s : Shared) (us : List Value), us.length = ps.length → BindsTo s fd ⟨us, []⟩ (ps.zip us)) ∧
        ∀ base : Heap, (K w.params).In base → base.Ns mainGlobals mg → FnOk r.prog w (K w.params) mg base (CX w) k fa fd ps (sp w))
    (hsp : ∀ (w : World) (H : Hp) (xs : List V) (a : Codec.denoteAll r.args), OnlyF H → Codec.withinAll r.args a = true → Codec.app r.args r.asked a = true → DwAll (K w.params) H xs (Codec.encAll r.args a) →
      sp w xs H (fun v H' => Dw (K w.params) H' v (r.ret.enc (Codec.app r.args r.f a))) fun _ _ _ => False)
    (hCX : ∀ (w : World) (H : Hp) (s : Shared) (e : Value) (s' : Shared), CX w [] H s (fun _ _ _ => False) e s' → False) :
    PySem.W.WalkOS q loose XP YP r d [] (fun f vs => PySem.call f vs) := by
  intro w s_0 s₁ mg mb G Y fa o pm cd doc dV kV ho hd hcd hD hmg hg args vals as hpre hlay hrd hwl hlo
  obtain ⟨a, e1, e2⟩ := PySem.W.os_pre_some hpre
  obtain ⟨e3, hwi⟩ := Codec.encAll_of_decAll r.args args a e1
  subst e3
  have KX := hY w _ Y
  obtain ⟨fd, hb, hF⟩ := F w mg fa _ Y KX G.T.g hmg
  refine PySem.W.enter_call (codeAny_mono (spec_call (R := []) (cl := classAt s_0.heap) (d0 := r.ret.enc (Codec.app r.args r.f a)) KX G.T.g G.T.b G.T.builtins G.T.nolimit hg hwl (pl_encAll _ _) (layable_weight hlay) hr hF hb (by rw [encAll_len]; exact hlen)
    (fun H xs hO hS => hsp w H xs a hO hwi e2 hS) fun H e s' => hCX w H s₁ e s') fun r' s' hq => ?_)
  obtain ⟨u, as', rfl, h1, h2, h3, h4⟩ := hq
  exact ⟨.inl ⟨u, _, as', rfl, fun _ => rfl, h1, (OpenSpec.post_iff hwell hwi _ _).mpr rfl, fun z => Bool.noConfusion (show false = true from z)⟩, h2, h3, h4⟩
/-- the same where the promise hangs on the written part alone -/
theorem walk_specK {r : OpenSpec} {k : Nat} {q : Program} {loose : List Str} {XP : (Str → Option Value) → Heap → Prop} {YP : World → Heap → Prop} {d : DefRec} {K : Params → PySem.W.Frag} {CX : CXT} {ps : List Str} {sp : PySem.W.Frag → Sp}
    (hwell : r.wellSaid = true) (hdf : d.params.defaults = []) (hlen : r.args.length = ps.length) (hr : Room k callerA)
    (hY : ∀ (w : World) (h : Heap), YP w h → (K w.params).In h)
    (F : ∀ (w : World) (mg : Str → Option Value) (fa : Addr) (h : Heap), YP w h → (K w.params).In h → h.Ns mainGlobals mg → mg d.name = some (.ref fa) →
      ∃ fd : FuncData, (∀ (s : Shared) (us : List Value), us.length = ps.length → BindsTo s fd ⟨us, []⟩ (ps.zip us)) ∧
        ∀ base : Heap, (K w.params).In base → base.Ns mainGlobals mg → FnOk r.prog w (K w.params) mg base CX k fa fd ps (sp (K w.params)))
    (hsp : ∀ (K : PySem.W.Frag) (H : Hp) (xs : List V) (a : Codec.denoteAll r.args), OnlyF H → Codec.withinAll r.args a = true → Codec.app r.args r.asked a = true → DwAll K H xs (Codec.encAll r.args a) →
      sp K xs H (fun v H' => Dw K H' v (r.ret.enc (Codec.app r.args r.f a))) fun _ _ _ => False)
    (hCX : ∀ (H : Hp) (s : Shared) (e : Value) (s' : Shared), CX [] H s (fun _ _ _ => False) e s' → False) :
    PySem.W.WalkOS q loose XP YP r d [] (fun f vs => PySem.call f vs) :=
  walk_spec (K := K) (CX := fun _ => CX) (sp := fun w => sp (K w.params)) hwell hdf hlen hr hY F (fun w H xs a h1 h2 h3 h4 => hsp (K w.params) H xs a h1 h2 h3 h4) fun _ H s e s' => hCX H s e s'
end L2
-- rests on (row put in by the clerk, for the bench that shows a file only what it spells): KE.SpHead KE.OsShapes
end
end
section
set_option Elab.async false
namespace Mm
open Mb

/-- a way down from a to b: all but its last commit are k or above -/
inductive AncK (ps : List (List Nat)) (k : Nat) : Nat → Nat → Prop
  | refl (a : Nat) : AncK ps k a a
  | snoc {a c b : Nat} : AncK ps k a c → k ≤ c → b ∈ ps.getD c [] → AncK ps k a b
/-- a comes from b -/
abbrev Anc (ps : List (List Nat)) (a b : Nat) : Prop := AncK ps 0 a b
/-- parents stand lower -/
def Low (ps : List (List Nat)) : Prop := ∀ c p, p ∈ ps.getD c [] → p < c

section
variable {ps : List (List Nat)}
theorem getD_mem_lt {c p : Nat} (h : p ∈ ps.getD c []) : c < ps.length := by
  by_cases e : c < ps.length
  · exact e
  · rw [List.getD_eq_getElem?_getD, List.getElem?_eq_none (by omega)] at h
    simp at h
theorem AncK.le (lw : Low ps) {k a b : Nat} (h : AncK ps k a b) : b ≤ a := by
  induction h with
  | refl => exact Nat.le_refl _
  | snoc _ _ m ih => exact Nat.le_of_lt (Nat.lt_of_lt_of_le (lw _ _ m) ih)
theorem AncK.mono {k j a b : Nat} (h : AncK ps k a b) (hj : j ≤ k) : AncK ps j a b := by
  induction h with
  | refl => exact .refl _
  | snoc _ hk m ih => exact .snoc ih (Nat.le_trans hj hk) m
theorem AncK.trans {k a b c : Nat} (h : AncK ps k a b) (g : AncK ps k b c) : AncK ps k a c := by
  induction g with
  | refl => exact h
  | snoc _ hk m ih => exact .snoc ih hk m
theorem AncK.top (lw : Low ps) {a b : Nat} (h : AncK ps (a + 1) a b) : a = b := by
  cases h with
  | refl => rfl
  | snoc g hk m => exact absurd (g.le lw) (by omega)
theorem AncK.len {a b : Nat} (h : AncK ps ps.length a b) : a = b := by
  cases h with
  | refl => rfl
  | snoc g hk m => exact absurd (getD_mem_lt m) (by omega)
theorem ancK_succ (lw : Low ps) {k a b : Nat} : AncK ps k a b ↔ AncK ps (k + 1) a b ∨ (AncK ps (k + 1) a k ∧ b ∈ ps.getD k []) := by
  constructor
  · intro h
    induction h with
    | refl => exact .inl (.refl _)
    | snoc g hk m ih =>
      rename_i c b
      have hc : AncK ps (k + 1) a c := by
        rcases ih with h | ⟨_, h⟩
        · exact h
        · exact absurd (lw _ _ h) (by omega)
      by_cases e : c = k
      · subst e
        exact .inr ⟨hc, m⟩
      · exact .inl (.snoc hc (by omega) m)
  · rintro (h | ⟨h, m⟩)
    · exact h.mono (by omega)
    · exact .snoc (h.mono (by omega)) (Nat.le_refl _) m
theorem AncK.head {k a b : Nat} (h : AncK ps k a b) : a = b ∨ ∃ p, p ∈ ps.getD a [] ∧ AncK ps k p b := by
  induction h with
  | refl => exact .inl rfl
  | snoc g hk m ih =>
    rcases ih with rfl | ⟨p, hp, h⟩
    · exact .inr ⟨_, m, .refl _⟩
    · exact .inr ⟨p, hp, .snoc h hk m⟩
theorem anc_ne (lw : Low ps) {d c : Nat} : (d ≠ c ∧ Anc ps d c) ↔ ∃ p, p ∈ ps.getD d [] ∧ Anc ps p c := by
  constructor
  · rintro ⟨ne, h⟩
    rcases h.head with e | h
    · exact absurd e ne
    · exact h
  · rintro ⟨p, hp, h⟩
    have h1 := lw _ _ hp
    have h2 := h.le lw
    exact ⟨by omega, AncK.trans (.snoc (.refl d) (Nat.zero_le _) hp) h⟩

/-! ## seen: the sweep down over a list of truth values -/
def markAll (row : List Nat) (seen : List Bool) : List Bool := row.foldl (fun s p => s.set p true) seen
def turn (ps : List (List Nat)) (seen : List Bool) (c : Nat) : List Bool := if seen.getD c false = true then markAll (ps.getD c []) seen else seen
/-- after i turns, from commit n - 1 downwards -/
def sw (ps : List (List Nat)) (seen : List Bool) (n : Nat) : Nat → List Bool
  | 0 => seen
  | i + 1 => turn ps (sw ps seen n i) (n - 1 - i)
theorem markAll_length : ∀ (row : List Nat) (s : List Bool), (markAll row s).length = s.length
  | [], s => rfl
  | p :: r, s => by
    show (markAll r (s.set p true)).length = _
    rw [markAll_length r, List.length_set]
theorem turn_length (s : List Bool) (c : Nat) : (turn ps s c).length = s.length := by
  unfold turn
  split
  · exact markAll_length _ _
  · rfl
theorem sw_length (s : List Bool) (n : Nat) : ∀ i, (sw ps s n i).length = s.length
  | 0 => rfl
  | i + 1 => by rw [sw, turn_length, sw_length s n i]
theorem getD_set_true (s : List Bool) (p b : Nat) (hp : p < s.length) : (s.set p true).getD b false = true ↔ s.getD b false = true ∨ b = p := by
  rw [List.getD_eq_getElem?_getD, List.getD_eq_getElem?_getD, List.getElem?_set]
  by_cases e : p = b
  · subst e
    simp [hp]
  · simp [e, Ne.symm (Ne.intro e)]
theorem markAll_iff : ∀ (row : List Nat) (s : List Bool) (b : Nat), (∀ p ∈ row, p < s.length) → ((markAll row s).getD b false = true ↔ s.getD b false = true ∨ b ∈ row)
  | [], s, b, _ => by simp [markAll]
  | p :: r, s, b, h => by
    show (markAll r (s.set p true)).getD b false = true ↔ _
    rw [markAll_iff r (s.set p true) b (fun q hq => by rw [List.length_set]; exact h q (.tail _ hq)), getD_set_true s p b (h p (.head _)), List.mem_cons, or_assoc]
theorem sw_iff (lw : Low ps) (s : List Bool) (hs : s.length = ps.length) : ∀ (i : Nat), i ≤ ps.length → ∀ b, ((sw ps s ps.length i).getD b false = true ↔ ∃ a, s.getD a false = true ∧ AncK ps (ps.length - i) a b)
  | 0, _, b => by
    constructor
    · intro h; exact ⟨b, h, .refl _⟩
    · rintro ⟨a, h, g⟩
      have e := AncK.len (ps := ps) (by simpa using g)
      subst e; exact h
  | i + 1, hi, b => by
    have ih := sw_iff lw s hs i (by omega)
    have e1 : ps.length - i = (ps.length - (i + 1)) + 1 := by omega
    have e2 : ps.length - 1 - i = ps.length - (i + 1) := by omega
    rw [e1] at ih
    have key : ((sw ps s ps.length (i + 1)).getD b false = true) ↔ (sw ps s ps.length i).getD b false = true ∨ ((sw ps s ps.length i).getD (ps.length - (i + 1)) false = true ∧ b ∈ ps.getD (ps.length - (i + 1)) []) := by
      show (turn ps (sw ps s ps.length i) (ps.length - 1 - i)).getD b false = true ↔ _
      rw [e2]
      unfold turn
      split
      · rename_i hc
        rw [markAll_iff _ _ _ (fun p hp => by rw [sw_length, hs]; have := lw _ _ hp; omega)]
        constructor
        · rintro (h | h)
          · exact .inl h
          · exact .inr ⟨hc, h⟩
        · rintro (h | ⟨_, h⟩)
          · exact .inl h
          · exact .inr h
      · rename_i hc
        constructor
        · exact .inl
        · rintro (h | ⟨h, _⟩)
          · exact h
          · exact absurd h hc
    rw [key, ih b, ih (ps.length - (i + 1))]
    constructor
    · rintro (⟨a, h, g⟩ | ⟨⟨a, h, g⟩, m⟩)
      · exact ⟨a, h, (ancK_succ lw).mpr (.inl g)⟩
      · exact ⟨a, h, (ancK_succ lw).mpr (.inr ⟨g, m⟩)⟩
    · rintro ⟨a, h, g⟩
      rcases (ancK_succ lw).mp g with g | ⟨g, m⟩
      · exact .inl ⟨a, h, g⟩
      · exact .inr ⟨⟨a, h, g⟩, m⟩
/-- the starts marked, then swept -/
def reached (ps : List (List Nat)) (starts : List Nat) : List Bool := sw ps (markAll starts (List.replicate ps.length false)) ps.length ps.length
theorem reached_length (starts : List Nat) : (reached ps starts).length = ps.length := by
  rw [reached, sw_length, markAll_length, List.length_replicate]
theorem reached_iff (lw : Low ps) {starts : List Nat} (hs : ∀ a ∈ starts, a < ps.length) (b : Nat) : (reached ps starts).getD b false = true ↔ ∃ a, a ∈ starts ∧ Anc ps a b := by
  unfold reached
  rw [sw_iff lw _ (by rw [markAll_length, List.length_replicate]) _ (Nat.le_refl _)]
  rw [Nat.sub_self]
  constructor
  · rintro ⟨a, h, g⟩
    rw [markAll_iff _ _ _ (fun p hp => by rw [List.length_replicate]; exact hs p hp)] at h
    rcases h with h | h
    · exfalso
      rw [List.getD_eq_getElem?_getD, List.getElem?_replicate] at h
      split at h <;> simp at h
    · exact ⟨a, h, g⟩
  · rintro ⟨a, h, g⟩
    refine ⟨a, ?_, g⟩
    rw [markAll_iff _ _ _ (fun p hp => by rw [List.length_replicate]; exact hs p hp)]
    exact .inr h

/-! ## the fewest steps: the specification's sweep, over lists -/
def frow (n : Nat) (row : List Nat) (u : List (Option Nat)) : List (Option Nat) := row.foldl (fun u p => u.set p (lesser (u.getD p none) (n + 1))) u
def fturn (ps : List (List Nat)) (u : List (Option Nat)) (c : Nat) : List (Option Nat) := match u.getD c none with
  | none => u
  | some n => frow n (ps.getD c []) u
def fs (ps : List (List Nat)) (a : Nat) : Nat → List (Option Nat)
  | 0 => (List.replicate ps.length none).set a (some 0)
  | i + 1 => fturn ps (fs ps a i) (a - i)
theorem frow_length (n : Nat) : ∀ (row : List Nat) (u : List (Option Nat)), (frow n row u).length = u.length
  | [], _ => rfl
  | p :: r, u => by
    show (frow n r (u.set p _)).length = _
    rw [frow_length n r, List.length_set]
theorem fturn_length (u : List (Option Nat)) (c : Nat) : (fturn ps u c).length = u.length := by
  unfold fturn
  split
  · rfl
  · exact frow_length _ _ _
theorem fs_length (a : Nat) : ∀ i, (fs ps a i).length = ps.length
  | 0 => by rw [fs, List.length_set, List.length_replicate]
  | i + 1 => by rw [fs, fturn_length, fs_length a i]
theorem frow_out (n b : Nat) : ∀ (row : List Nat) (u : List (Option Nat)), b ∉ row → (frow n row u).getD b none = u.getD b none
  | [], _, _ => rfl
  | p :: r, u, h => by
    show (frow n r (u.set p _)).getD b none = _
    rw [frow_out n b r _ (fun q => h (.tail _ q))]
    rw [List.getD_eq_getElem?_getD, List.getElem?_set_ne (fun e => h (by rw [e]; exact .head _)), List.getD_eq_getElem?_getD]
theorem fturn_out (lw : Low ps) (u : List (Option Nat)) {c b : Nat} (h : c ≤ b) : (fturn ps u c).getD b none = u.getD b none := by
  unfold fturn
  split
  · rfl
  · exact frow_out _ _ _ _ (fun m => absurd (lw _ _ m) (by omega))
theorem fs_stays (lw : Low ps) (a b : Nat) : ∀ j, (fs ps a (a - b + j)).getD b none = (fs ps a (a - b)).getD b none
  | 0 => rfl
  | j + 1 => by
    rw [← Nat.add_assoc, fs, fturn_out lw _ (by omega), fs_stays lw a b j]
def rowA (n : Nat) (u : Array (Option Nat)) (p : Nat) : Array (Option Nat) := u.setIfInBounds p (lesser (u.getD p none) (n + 1))
theorem getD_arr (t : Array (Option Nat)) (c : Nat) : t.getD c none = t.toList.getD c none := by
  rw [List.getD_eq_getElem?_getD, Array.getElem?_toList, Array.getD_eq_getD_getElem?]
theorem rowA_list (n : Nat) : ∀ (row : List Nat) (t : Array (Option Nat)), (row.foldl (rowA n) t).toList = frow n row t.toList
  | [], _ => rfl
  | p :: r, t => by
    rw [List.foldl_cons, rowA_list n r, rowA, Array.toList_setIfInBounds, getD_arr]
    rfl
def turnA (s : Hist) (t : Array (Option Nat)) (c : Nat) : Array (Option Nat) := match t.getD c none with
  | none => t
  | some n => (s.parents.getD c []).foldl (rowA n) t
theorem turnA_list (s : Hist) (t : Array (Option Nat)) (c : Nat) : (turnA s t c).toList = fturn s.parents t.toList c := by
  unfold turnA fturn
  rw [getD_arr]
  split
  · rfl
  · exact rowA_list _ _ _
theorem stepsFrom_eq (s : Hist) (a : Nat) : stepsFrom s a = (downFrom a).foldl (turnA s) ((Array.replicate s.size none).setIfInBounds a (some 0)) := rfl
theorem down_list (s : Hist) (a : Nat) : ∀ (m : Nat) (t : Array (Option Nat)), m ≤ a → t.toList = fs s.parents a (a - m) → ((downFrom m).foldl (turnA s) t).toList = fs s.parents a (a + 1)
  | 0, t, _, h => by
    show (turnA s t 0).toList = _
    rw [turnA_list, h, fs]
    simp
  | m + 1, t, hm, h => by
    rw [downFrom, List.foldl_cons]
    refine down_list s a m _ (by omega) ?_
    rw [turnA_list, h]
    have e : a - m = (a - (m + 1)) + 1 := by omega
    rw [e, fs]
    have e2 : a - (a - (m + 1)) = m + 1 := by omega
    rw [e2]
theorem stepsFrom_list (s : Hist) (a : Nat) : (stepsFrom s a).toList = fs s.parents a (a + 1) := by
  rw [stepsFrom_eq]
  refine down_list s a a _ (Nat.le_refl _) ?_
  rw [Nat.sub_self, Array.toList_setIfInBounds, Array.toList_replicate]
  rfl
theorem steps_eq (s : Hist) (lw : Low s.parents) (a b : Nat) : steps s a b = (fs s.parents a (a - b)).getD b none := by
  unfold steps
  rw [getD_arr, stepsFrom_list, ← fs_stays lw a b (a + 1 - (a - b))]
  congr 2
  omega

/-! ## some steps: it comes from it -/
theorem frow_some (n b : Nat) : ∀ (row : List Nat) (u : List (Option Nat)), (∀ p ∈ row, p < u.length) → (((frow n row u).getD b none).isSome = true ↔ (u.getD b none).isSome = true ∨ b ∈ row)
  | [], u, _ => by simp [frow]
  | p :: r, u, h => by
    show (((frow n r (u.set p _)).getD b none).isSome = true) ↔ _
    rw [frow_some n b r _ (fun q hq => by rw [List.length_set]; exact h q (.tail _ hq)), List.mem_cons, ← or_assoc]
    refine or_congr ?_ Iff.rfl
    have hp := h p (.head _)
    rw [List.getD_eq_getElem?_getD (l := u.set p _), List.getElem?_set]
    by_cases e : p = b
    · subst e
      simp [hp]
      unfold lesser
      split <;> rfl
    · simp [e, Ne.symm (Ne.intro e)]
theorem fs_iff {ps : List (List Nat)} (lw : Low ps) {a : Nat} (ha : a < ps.length) : ∀ (i : Nat), i ≤ a + 1 → ∀ b, (((fs ps a i).getD b none).isSome = true ↔ AncK ps (a + 1 - i) a b)
  | 0, _, b => by
    show (((List.replicate ps.length none).set a (some 0)).getD b none).isSome = true ↔ _
    rw [List.getD_eq_getElem?_getD, List.getElem?_set]
    by_cases e : a = b
    · subst e
      simp [ha]
      exact .refl _
    · simp only [e, if_false]
      constructor
      · intro h
        rw [List.getElem?_replicate] at h
        split at h <;> simp at h
      · intro h
        exact absurd (AncK.top lw (by simpa using h)) e
  | i + 1, hi, b => by
    have ih := fs_iff lw ha i (by omega)
    have e1 : a + 1 - i = (a - i) + 1 := by omega
    have e2 : a + 1 - (i + 1) = a - i := by omega
    rw [e1] at ih
    rw [e2, ancK_succ lw, ← ih b, ← ih (a - i), fs]
    unfold fturn
    split
    · rename_i e
      constructor
      · exact .inl
      · rintro (h | ⟨h, _⟩)
        · exact h
        · rw [e] at h; cases h
    · rename_i n e
      rw [frow_some n b _ _ (fun p hp => by rw [fs_length]; have := lw _ _ hp; omega)]
      constructor
      · rintro (h | h)
        · exact .inl h
        · exact .inr ⟨by rw [e]; rfl, h⟩
      · rintro (h | ⟨_, h⟩)
        · exact .inl h
        · exact .inr h
end
theorem stepsFrom_some (s : Hist) (lw : Low s.parents) {a : Nat} (ha : a < s.size) (b : Nat) : ((stepsFrom s a).getD b none).isSome = true ↔ Anc s.parents a b := by
  rw [getD_arr, stepsFrom_list, fs_iff lw ha _ (Nat.le_refl _), Nat.sub_self]
theorem steps_some (s : Hist) (lw : Low s.parents) {a : Nat} (ha : a < s.size) (b : Nat) : (steps s a b).isSome = true ↔ Anc s.parents a b := stepsFrom_some s lw ha b
theorem from_some (s : Hist) (lw : Low s.parents) {a : Nat} (ha : a < s.size) (b : Nat) : from_ (table s) a b = true ↔ Anc s.parents a b := by
  unfold from_ table
  have e : ((List.range s.size).map (ancestors s)).toArray.getD a [] = ancestors s a := by
    rw [Array.getD_eq_getD_getElem?]
    simp [ha]
  rw [e, List.contains_iff_mem]
  unfold ancestors
  simp only [List.mem_filter, List.mem_range]
  rw [stepsFrom_some s lw ha b]
  constructor
  · exact fun h => h.2
  · exact fun h => ⟨Nat.lt_of_le_of_lt (h.le lw) ha, h⟩
end Mm
end
section
set_option Elab.async false
set_option autoImplicit false
set_option linter.all false
namespace Mm
open Mb

/-- what holds of a history between two calls -/
structure Wf (s : Hist) : Prop where
  low : Low s.parents
  few : s.parents.length ≤ 128
  row : ∀ r ∈ s.parents, r.length ≤ 8
  mlen : s.marks.length = 64
  mks : ∀ (m a : Nat), s.marks[m]? = some (some a) → a < s.parents.length

theorem wf_new : Wf new where
  low := fun c p h => by
    have : (new.parents.getD c []) = [] := by simp [new]
    rw [this] at h; cases h
  few := Nat.zero_le _
  row := fun r h => by cases h
  mlen := by simp [new, MARKS]
  mks := fun m a h => by
    have : (List.replicate MARKS (none : Option Nat))[m]? = some (some a) := h
    rw [List.getElem?_replicate] at this
    split at this <;> simp at this

/-! ## rising lists -/
theorem sorted_ext : ∀ {l m : List Nat}, l.Pairwise (· < ·) → m.Pairwise (· < ·) → (∀ x, x ∈ l ↔ x ∈ m) → l = m
  | [], [], _, _, _ => rfl
  | [], y :: m, _, _, h => by have := (h y).mpr (.head _); cases this
  | x :: l, [], _, _, h => by have := (h x).mp (.head _); cases this
  | x :: l, y :: m, hl, hm, h => by
    rw [List.pairwise_cons] at hl hm
    have e : x = y := by
      rcases List.mem_cons.mp ((h x).mp (.head _)) with e | hx
      · exact e
      · rcases List.mem_cons.mp ((h y).mpr (.head _)) with e | hy
        · exact e.symm
        · have := hm.1 x hx
          have := hl.1 y hy
          omega
    subst e
    congr 1
    refine sorted_ext hl.2 hm.2 fun z => ?_
    constructor
    · intro hz
      rcases List.mem_cons.mp ((h z).mp (.tail _ hz)) with e | h'
      · have := hl.1 z hz; omega
      · exact h'
    · intro hz
      rcases List.mem_cons.mp ((h z).mpr (.tail _ hz)) with e | h'
      · have := hm.1 z hz; omega
      · exact h'
theorem range_sorted (n : Nat) : (List.range n).Pairwise (· < ·) := List.pairwise_lt_range
theorem filter_sorted {l : List Nat} (h : l.Pairwise (· < ·)) (f : Nat → Bool) : (l.filter f).Pairwise (· < ·) := h.filter f

/-! ## the specification's answers, by who comes from whom -/
section
variable {s : Hist} (W : Wf s)
include W
theorem mem_walk {as bs : List Nat} (ha : ∀ a ∈ as, a < s.size) (hb : ∀ b ∈ bs, b < s.size) (c : Nat) : c ∈ walk s as bs ↔ (∃ a, a ∈ as ∧ Anc s.parents a c) ∧ ∀ b ∈ bs, ¬ Anc s.parents b c := by
  unfold walk
  simp only [List.mem_filter, List.mem_range, Bool.and_eq_true, List.any_eq_true, List.all_eq_true, Bool.not_eq_true']
  constructor
  · rintro ⟨h, ⟨a, h1, h2⟩, h3⟩
    refine ⟨⟨a, h1, (from_some s W.low (ha a h1) c).mp h2⟩, fun b hb' g => ?_⟩
    have := h3 b hb'
    rw [(from_some s W.low (hb b hb') c).mpr g] at this
    cases this
  · rintro ⟨⟨a, h1, h2⟩, h3⟩
    refine ⟨Nat.lt_of_le_of_lt (h2.le W.low) (ha a h1), ⟨a, h1, (from_some s W.low (ha a h1) c).mpr h2⟩, fun b hb' => ?_⟩
    cases e : from_ (table s) b c with
    | false => rfl
    | true => exact absurd ((from_some s W.low (hb b hb') c).mp e) (h3 b hb')
theorem walk_sorted (as bs : List Nat) : (walk s as bs).Pairwise (· < ·) := by
  unfold walk; exact filter_sorted (range_sorted _) _
theorem mem_heads {as : List Nat} (ha : ∀ a ∈ as, a < s.size) (c : Nat) : c ∈ heads s as ↔ c ∈ as ∧ ∀ d ∈ as, ¬ (d ≠ c ∧ Anc s.parents d c) := by
  unfold heads
  simp only [List.mem_filter, List.mem_range, Bool.and_eq_true, List.contains_iff_mem, List.all_eq_true, Bool.or_eq_true, beq_iff_eq, Bool.not_eq_true']
  constructor
  · rintro ⟨h, h1, h2⟩
    refine ⟨h1, fun d hd ⟨ne, g⟩ => ?_⟩
    rcases h2 d hd with e | e
    · exact ne e
    · rw [(from_some s W.low (ha d hd) c).mpr g] at e; cases e
  · rintro ⟨h1, h2⟩
    refine ⟨ha c h1, h1, fun d hd => ?_⟩
    by_cases e : d = c
    · exact .inl e
    · refine .inr ?_
      cases e' : from_ (table s) d c with
      | false => rfl
      | true => exact absurd ⟨e, (from_some s W.low (ha d hd) c).mp e'⟩ (h2 d hd)
theorem heads_sorted (as : List Nat) : (heads s as).Pairwise (· < ·) := by
  unfold heads; exact filter_sorted (range_sorted _) _
/-- what all of these come from, rising -/
def commonOf (s : Hist) (as : List Nat) : List Nat := (List.range s.size).filter fun (c : Nat) => as.all fun (a : Nat) => from_ (table s) a c
omit W in
theorem commonOf_lt (as : List Nat) : ∀ c ∈ commonOf s as, c < s.size := fun c h => List.mem_range.mp (List.mem_filter.mp h).1
theorem mem_common {as : List Nat} (ha : ∀ a ∈ as, a < s.size) (c : Nat) : c ∈ commonOf s as ↔ c < s.size ∧ ∀ a ∈ as, Anc s.parents a c := by
  unfold commonOf
  simp only [List.mem_filter, List.mem_range, List.all_eq_true]
  exact and_congr Iff.rfl ⟨fun h a h1 => (from_some s W.low (ha a h1) c).mp (h a h1), fun h a h1 => (from_some s W.low (ha a h1) c).mpr (h a h1)⟩
omit W in
theorem best_heads (as : List Nat) : best s as = heads s (commonOf s as) := by
  unfold best heads
  show (commonOf s as).filter _ = _
  refine sorted_ext (filter_sorted (filter_sorted (range_sorted _) _) _) (filter_sorted (range_sorted _) _) fun x => ?_
  simp only [List.mem_filter, List.mem_range, Bool.and_eq_true, List.contains_iff_mem]
  constructor
  · rintro ⟨h1, h2⟩
    exact ⟨commonOf_lt as x h1, h1, h2⟩
  · rintro ⟨_, h1, h2⟩
    exact ⟨h1, h2⟩
theorem mem_between {a b : Nat} (ha : a < s.size) (c : Nat) : c ∈ between s a b ↔ Anc s.parents a c ∧ Anc s.parents c b := by
  unfold between
  simp only [List.mem_filter, List.mem_range, Bool.and_eq_true]
  constructor
  · rintro ⟨h, h1, h2⟩
    exact ⟨(from_some s W.low ha c).mp h1, (from_some s W.low h b).mp h2⟩
  · rintro ⟨h1, h2⟩
    have h : c < s.size := Nat.lt_of_le_of_lt (h1.le W.low) ha
    exact ⟨h, (from_some s W.low ha c).mpr h1, (from_some s W.low h b).mpr h2⟩
theorem between_sorted (a b : Nat) : (between s a b).Pairwise (· < ·) := by
  unfold between; exact filter_sorted (range_sorted _) _
theorem mem_marked (c : Nat) : c ∈ marked s ↔ ∃ a, some a ∈ s.marks ∧ Anc s.parents a c := by
  unfold marked
  simp only [List.mem_filter, List.mem_range, List.any_eq_true]
  have lt : ∀ a, some a ∈ s.marks → a < s.size := fun a h => by
    obtain ⟨m, hm⟩ := List.getElem?_of_mem h
    exact W.mks m a hm
  constructor
  · rintro ⟨h, m, hm, h2⟩
    cases m with
    | none => cases h2
    | some a => exact ⟨a, hm, (from_some s W.low (lt a hm) c).mp h2⟩
  · rintro ⟨a, hm, h2⟩
    exact ⟨Nat.lt_of_le_of_lt (h2.le W.low) (lt a hm), some a, hm, (from_some s W.low (lt a hm) c).mpr h2⟩
theorem marked_sorted : (marked s).Pairwise (· < ·) := by
  unfold marked; exact filter_sorted (range_sorted _) _
omit W in
theorem marked_lt : ∀ c ∈ marked s, c < s.size := fun c h => List.mem_range.mp (List.mem_filter.mp h).1
theorem marked_closed {c p : Nat} (h : c ∈ marked s) (hp : p ∈ s.parents.getD c []) : p ∈ marked s := by
  obtain ⟨a, h1, h2⟩ := (mem_marked W c).mp h
  exact (mem_marked W p).mpr ⟨a, h1, .snoc h2 (Nat.zero_le _) hp⟩
theorem marked_has {a : Nat} (h : some a ∈ s.marks) : a ∈ marked s := (mem_marked W a).mpr ⟨a, h, .refl _⟩
end
/-! ## places in a rising list -/
theorem place_at : ∀ {l : List Nat} {c : Nat}, c ∈ l → l[placeIn l c]? = some c
  | [], _, h => by cases h
  | x :: r, c, h => by
    unfold placeIn
    by_cases e : x = c
    · rw [if_pos e, e]; rfl
    · rw [if_neg e, Nat.add_comm, List.getElem?_cons_succ]
      exact place_at ((List.mem_cons.mp h).resolve_left fun q => e q.symm)
theorem place_lt {l : List Nat} {c : Nat} (h : c ∈ l) : placeIn l c < l.length := (List.getElem?_eq_some_iff.mp (place_at h)).1
theorem place_mono {l : List Nat} (hs : l.Pairwise (· < ·)) {c d : Nat} (hc : c ∈ l) (hd : d ∈ l) (h : c < d) : placeIn l c < placeIn l d := by
  obtain ⟨h1, e1⟩ := List.getElem?_eq_some_iff.mp (place_at hc)
  obtain ⟨h2, e2⟩ := List.getElem?_eq_some_iff.mp (place_at hd)
  rcases Nat.lt_trichotomy (placeIn l c) (placeIn l d) with g | g | g
  · exact g
  · have : l[placeIn l c]'h1 = l[placeIn l d]'h2 := by congr 1
    omega
  · have := List.pairwise_iff_getElem.mp hs _ _ h2 h1 g
    omega
theorem place_of {l : List Nat} (hs : l.Pairwise (· < ·)) {i c : Nat} (h : l[i]? = some c) : placeIn l c = i := by
  obtain ⟨h1, e1⟩ := List.getElem?_eq_some_iff.mp h
  obtain ⟨h2, e2⟩ := List.getElem?_eq_some_iff.mp (place_at (List.mem_of_getElem? h))
  rcases Nat.lt_trichotomy (placeIn l c) i with g | g | g
  · have := List.pairwise_iff_getElem.mp hs _ _ h2 h1 g; omega
  · exact g
  · have := List.pairwise_iff_getElem.mp hs _ _ h1 h2 g; omega
theorem wf_kept {s : Hist} (W : Wf s) : Wf (kept s (marked s)) := by
  have hs := marked_sorted W
  have hl := marked_lt (s := s)
  refine ⟨fun i p h => ?_, ?_, fun r h => ?_, ?_, fun m a h => ?_⟩
  · have h' : p ∈ ((marked s).map fun c => (s.parents.getD c []).map (placeIn (marked s))).getD i [] := h
    rw [List.getD_eq_getElem?_getD, List.getElem?_map] at h'
    cases e : (marked s)[i]? with
    | none => rw [e] at h'; cases h'
    | some c =>
      rw [e] at h'
      have h2 : p ∈ (s.parents.getD c []).map (placeIn (marked s)) := h'
      obtain ⟨q, hq, rfl⟩ := List.mem_map.mp h2
      have hc := List.mem_of_getElem? e
      have := place_mono hs (marked_closed W hc hq) hc (W.low _ _ hq)
      rw [place_of hs e] at this
      exact this
  · show ((marked s).map _).length ≤ 128
    rw [List.length_map]
    unfold marked
    exact Nat.le_trans (List.length_filter_le _ _) (by rw [List.length_range]; exact W.few)
  · obtain ⟨c, hc, rfl⟩ := List.mem_map.mp h
    rw [List.length_map]
    rw [List.getD_eq_getElem?_getD]
    cases e : s.parents[c]? with
    | none => exact Nat.zero_le _
    | some r => exact W.row r (List.mem_of_getElem? e)
  · show (s.marks.map _).length = 64
    rw [List.length_map, W.mlen]
  · have h' : (s.marks.map fun m => m.map (placeIn (marked s)))[m]? = some (some a) := h
    rw [List.getElem?_map] at h'
    cases e : s.marks[m]? with
    | none => rw [e] at h'; cases h'
    | some o =>
      rw [e] at h'
      cases o with
      | none => cases h'
      | some b =>
        have e2 : placeIn (marked s) b = a := Option.some.inj (Option.some.inj h')
        subst e2
        show _ < ((marked s).map _).length
        rw [List.length_map]
        exact place_lt (marked_has W (List.mem_of_getElem? e))
theorem all_has {s : Hist} {ps : List Nat} : ps.all s.has = true ↔ ∀ p ∈ ps, p < s.parents.length := by
  rw [List.all_eq_true]
  exact ⟨fun h p hp => of_decide_eq_true (h p hp), fun h p hp => decide_eq_true (h p hp)⟩
theorem wf_add {s : Hist} (W : Wf s) {ps : List Nat} (h8 : ps.length ≤ 8) (hh : ∀ p ∈ ps, p < s.parents.length) (hr : s.parents.length < 128) : Wf { s with parents := s.parents ++ [ps] } := by
  refine ⟨fun c p h => ?_, ?_, fun r h => ?_, W.mlen, fun m a h => ?_⟩
  · have h' : p ∈ (s.parents ++ [ps]).getD c [] := h
    rw [List.getD_eq_getElem?_getD] at h'
    by_cases e : c < s.parents.length
    · rw [List.getElem?_append_left e] at h'
      exact W.low c p (by rw [List.getD_eq_getElem?_getD]; exact h')
    · rw [List.getElem?_append_right (by omega)] at h'
      by_cases e2 : c = s.parents.length
      · rw [e2, Nat.sub_self] at h'
        have := hh p h'
        omega
      · rw [List.getElem?_eq_none (by simp; omega)] at h'
        cases h'
  · show (s.parents ++ [ps]).length ≤ 128
    rw [List.length_append]
    exact hr
  · rcases List.mem_append.mp h with h | h
    · exact W.row r h
    · rw [List.mem_singleton.mp h]; exact h8
  · show a < (s.parents ++ [ps]).length
    rw [List.length_append]
    have := W.mks m a h
    omega
theorem wf_mark {s : Hist} (W : Wf s) {m c : Nat} (hc : c < s.parents.length) : Wf { s with marks := s.marks.set m (some c) } := by
  refine ⟨W.low, W.few, W.row, by show (s.marks.set m (some c)).length = 64; rw [List.length_set, W.mlen], fun j a h => ?_⟩
  have h' : (s.marks.set m (some c))[j]? = some (some a) := h
  rw [List.getElem?_set] at h'
  split at h'
  · split at h'
    · cases h'; exact hc
    · cases h'
  · exact W.mks j a h'
theorem wf_step {s : Hist} (W : Wf s) (c : Wqatak.Call) : Wf (Wqatak.step s c).1 := by
  cases c with
  | add ps =>
    show Wf (Wqatak.addOf s ps).1
    unfold Wqatak.addOf
    split
    · exact W
    · rename_i h
      split
      · rename_i h2
        have h3 : ps.all s.has = true := by
          cases e : ps.all s.has with
          | true => rfl
          | false => exact absurd (.inr (.inl e)) h
        exact wf_add W (Nat.le_of_not_lt fun q => h (.inl q)) (all_has.mp h3) h2
      · exact W
  | mark m c any =>
    show Wf (Wqatak.markOf s m c any).1
    unfold Wqatak.markOf
    split
    · exact W
    · rename_i h
      have h3 : s.has c = true := by
        cases e : s.has c with
        | true => rfl
        | false => exact absurd (.inr e) h
      have h4 : ∀ q : Prop, [Decidable q] → Wf (if q then (s, Wqatak.NO) else ({ s with marks := s.marks.set m (some c) }, Wqatak.says 0)).1 := fun q _ => by
        split
        · exact W
        · exact wf_mark W (of_decide_eq_true h3)
      exact h4 _
  | prune => exact wf_kept W
  | _ => exact W

/-! ## the mirrors' answers are the specification's -/
section
variable {s : Hist} (W : Wf s)
include W
theorem heads_mirror {as l : List Nat} (ha : ∀ a ∈ as, a < s.size) (hl : l.Pairwise (· < ·)) (hm : ∀ x, x ∈ l ↔ x ∈ as) :
    l.filter (fun c => !(reached s.parents (as.flatMap fun a => s.parents.getD a [])).getD c false) = heads s as := by
  have hb : ∀ p ∈ (as.flatMap fun a => s.parents.getD a []), p < s.parents.length := fun p hp => by
    obtain ⟨a, h1, h2⟩ := List.mem_flatMap.mp hp
    exact Nat.lt_trans (W.low _ _ h2) (ha a h1)
  refine sorted_ext (filter_sorted hl _) (heads_sorted W as) fun x => ?_
  rw [List.mem_filter, hm, mem_heads W ha, Bool.not_eq_true']
  refine and_congr Iff.rfl ?_
  rw [← Bool.not_eq_true, reached_iff W.low hb]
  constructor
  · intro h d hd g
    obtain ⟨p, hp, g⟩ := (anc_ne W.low).mp g
    exact h ⟨p, List.mem_flatMap.mpr ⟨d, hd, hp⟩, g⟩
  · rintro h ⟨p, hp, g⟩
    obtain ⟨d, hd, hp⟩ := List.mem_flatMap.mp hp
    exact h d hd ((anc_ne W.low).mpr ⟨p, hp, g⟩)
theorem common_mirror : ∀ {as : List Nat} (_ : ∀ a ∈ as, a < s.size) (l : List Nat), as.foldl (fun l a => l.filter fun c => (reached s.parents [a]).getD c false) l = l.filter fun c => as.all fun a => from_ (table s) a c
  | [], _, l => (List.filter_eq_self.mpr fun _ _ => rfl).symm
  | a :: as, h, l => by
    rw [List.foldl_cons, common_mirror (fun x hx => h x (.tail _ hx)), List.filter_filter]
    congr 1
    funext c
    rw [List.all_cons, Bool.and_comm]
    congr 1
    rw [Bool.eq_iff_iff, reached_iff W.low (fun x hx => by rw [List.mem_singleton.mp hx]; exact h a (.head _)), from_some s W.low (h a (.head _))]
    simp
end
end Mm
end
section
set_option Elab.async false
set_option autoImplicit false
set_option linter.all false
namespace Mm
open Mb
/-! ## the one of most gain -/
def up1 (acc : Option (Nat × Nat)) (x : Nat × Nat) : Option (Nat × Nat) := match acc with
  | none => some x
  | some y => if y.2 < x.2 then some x else some y
theorem most_up : ∀ (l : List (Nat × Nat)) (y : Nat × Nat), l.foldl up1 (some y) = (match most l with
    | none => some y
    | some z => if y.2 < z.2 then some z else some y)
  | [], y => rfl
  | x :: r, y => by
    rw [List.foldl_cons]
    show r.foldl up1 (if y.2 < x.2 then some x else some y) = _
    have hx := most_up r x
    have hy := most_up r y
    unfold most
    cases e : most r with
    | none =>
      rw [e] at hx hy
      simp only [] at hx hy ⊢
      split
      · exact hx
      · exact hy
    | some z =>
      rw [e] at hx hy
      simp only [] at hx hy ⊢
      by_cases h1 : y.2 < x.2
      · rw [if_pos h1, hx]
        by_cases h2 : x.2 < z.2
        · rw [if_pos h2]
          show some z = if y.2 < z.2 then some z else some y
          rw [if_pos (by omega)]
        · rw [if_neg h2]
          show some x = if y.2 < x.2 then some x else some y
          rw [if_pos h1]
      · rw [if_neg h1, hy]
        by_cases h2 : x.2 < z.2
        · rw [if_pos h2]
        · rw [if_neg h2]
          show _ = if y.2 < x.2 then some x else some y
          rw [if_neg h1, if_neg (by omega)]
/-- from the lowest up, a greater gain alone moves it -/
theorem most_foldl (l : List (Nat × Nat)) : l.foldl up1 none = most l := by
  cases l with
  | nil => rfl
  | cons x r =>
    show r.foldl up1 (some x) = _
    exact most_up r x
def dn1 (x : Nat × Nat) (acc : Option (Nat × Nat)) : Option (Nat × Nat) := match acc with
  | none => some x
  | some y => if x.2 < y.2 then some y else some x
/-- from the highest down, an equal gain moves it too -/
theorem most_foldr (l : List (Nat × Nat)) : l.foldr dn1 none = most l := by
  induction l with
  | nil => rfl
  | cons x r ih => rw [List.foldr_cons, ih]; rfl
/-- the most: an item of the list, none greater, the earlier ones less -/
theorem most_spec : ∀ (l : List (Nat × Nat)) (z : Nat × Nat), most l = some z → ∃ a b, l = a ++ z :: b ∧ (∀ x ∈ a, x.2 < z.2) ∧ ∀ x ∈ b, x.2 ≤ z.2
  | [], z, h => by cases h
  | x :: r, z, h => by
    unfold most at h
    cases e : most r with
    | none =>
      rw [e] at h
      cases h
      cases r with
      | nil => exact ⟨[], [], rfl, by simp, by simp⟩
      | cons y r =>
        unfold most at e
        split at e <;> (try split at e) <;> cases e
    | some y =>
      rw [e] at h
      obtain ⟨a, b, h1, h2, h3⟩ := most_spec r y e
      simp only [] at h
      split at h
      · rename_i hlt
        cases h
        refine ⟨x :: a, b, by rw [h1]; rfl, fun w hw => ?_, h3⟩
        rcases List.mem_cons.mp hw with rfl | hw
        · exact hlt
        · exact h2 w hw
      · rename_i hge
        cases h
        refine ⟨[], r, rfl, by simp, fun w hw => ?_⟩
        rw [h1] at hw
        rcases List.mem_append.mp hw with hw | hw
        · have := h2 w hw; omega
        · rcases List.mem_cons.mp hw with rfl | hw
          · omega
          · have := h3 w hw; omega
/-- and only that one -/
theorem most_of {l a b : List (Nat × Nat)} {z : Nat × Nat} (h : l = a ++ z :: b) (ha : ∀ x ∈ a, x.2 < z.2) (hb : ∀ x ∈ b, x.2 ≤ z.2) : most l = some z := by
  have hz : most (z :: b) = some z := by
    unfold most
    cases e : most b with
    | none => rfl
    | some y =>
      obtain ⟨c, d, h1, _, _⟩ := most_spec b y e
      have := hb y (by rw [h1]; simp)
      simp only []
      rw [if_neg (by omega)]
  subst h
  induction a with
  | nil => exact hz
  | cons x a ih =>
    have h1 := ih (fun w hw => ha w (.tail _ hw))
    rw [List.cons_append]
    unfold most
    rw [h1]
    simp only []
    rw [if_pos (ha x (.head _))]
theorem most_none {l : List (Nat × Nat)} : most l = none ↔ l = [] := by
  constructor
  · intro h
    cases l with
    | nil => rfl
    | cons y r =>
      unfold most at h
      split at h <;> (try split at h) <;> cases h
  · rintro rfl; rfl
end Mm
end
section
set_option Elab.async false
set_option autoImplicit false
set_option linter.all false
namespace Mm
open Mb
open WqatakNeutral (nats)

/-- an answer as the flat list has it -/
def ansOf (a : Wqatak.Ans) : List Int := a.ret :: a.nums.map WqatakNeutral.int

/-- a flat list begins with this call, and goes on with t -/
inductive Rd : List Int → Wqatak.Call → List Int → Prop
  | add (x t : List Int) : Rd (0 :: (x.length : Int) :: (x ++ t)) (.add (nats x)) t
  | parents (a : Int) (t : List Int) : Rd (1 :: a :: t) (.parents a.toNat) t
  | comes (a b : Int) (t : List Int) : Rd (2 :: a :: b :: t) (.comes a.toNat b.toNat) t
  | steps (a b : Int) (t : List Int) : Rd (3 :: a :: b :: t) (.steps a.toNat b.toNat) t
  | best (x t : List Int) : Rd (4 :: (x.length : Int) :: (x ++ t)) (.best (nats x)) t
  | heads (x t : List Int) : Rd (5 :: (x.length : Int) :: (x ++ t)) (.heads (nats x)) t
  | walk (x y t : List Int) : Rd (6 :: (x.length : Int) :: (x ++ (y.length : Int) :: (y ++ t))) (.walk (nats x) (nats y)) t
  | between (a b : Int) (t : List Int) : Rd (7 :: a :: b :: t) (.between a.toNat b.toNat) t
  | halve (x y t : List Int) : Rd (8 :: (x.length : Int) :: (x ++ (y.length : Int) :: (y ++ t))) (.halve (nats x) (nats y)) t
  | mark (m c y : Int) (t : List Int) : Rd (9 :: m :: c :: y :: t) (.mark m.toNat c.toNat y.toNat) t
  | marked (m : Int) (t : List Int) : Rd (10 :: m :: t) (.marked m.toNat) t
  | prune (t : List Int) : Rd (11 :: t) .prune t

theorem row_inv {l x t : List Int} (h : PyFlat.row l = some (x, t)) : l = (x.length : Int) :: (x ++ t) := by
  cases l with
  | nil => cases h
  | cons n r =>
    replace h : (if 0 ≤ n ∧ n.toNat ≤ r.length then some (r.take n.toNat, r.drop n.toNat) else none) = some (x, t) := h
    split at h
    · rename_i k
      obtain ⟨e1, e2⟩ := Prod.mk.inj (Option.some.inj h)
      subst e1 e2
      rw [List.take_append_drop, List.length_take]
      congr 1
      omega
    · cases h
theorem rows1_inv {l t : List Int} {xs : List (List Int)} (h : PyFlat.rows 1 l = some (xs, t)) : ∃ x, xs = [x] ∧ l = (x.length : Int) :: (x ++ t) := by
  unfold PyFlat.rows at h
  split at h
  · cases h
  · rename_i x s e
    have h2 : some (x :: ([] : List (List Int)), s) = some (xs, t) := h
    obtain ⟨e1, e2⟩ := Prod.mk.inj (Option.some.inj h2)
    subst e1 e2
    exact ⟨x, rfl, row_inv e⟩
theorem rows2_inv {l t : List Int} {xs : List (List Int)} (h : PyFlat.rows 2 l = some (xs, t)) : ∃ x y, xs = [x, y] ∧ l = (x.length : Int) :: (x ++ (y.length : Int) :: (y ++ t)) := by
  unfold PyFlat.rows at h
  split at h
  · cases h
  · rename_i x s e
    split at h
    · cases h
    · rename_i ys u e2
      obtain ⟨e3, e4⟩ := Prod.mk.inj (Option.some.inj h)
      obtain ⟨y, e5, e6⟩ := rows1_inv e2
      subst e3 e4 e5
      exact ⟨x, y, rfl, by rw [row_inv e, e6]⟩
theorem rows0_inv {l t : List Int} {xs : List (List Int)} (h : PyFlat.rows 0 l = some (xs, t)) : xs = [] ∧ l = t := by
  obtain ⟨e1, e2⟩ := Prod.mk.inj (Option.some.inj (show some (([] : List (List Int)), l) = some (xs, t) from h))
  exact ⟨e1.symm, e2⟩
theorem call_inv {p : Int} {r t : List Int} {c : List (List Int)} (h : PyFlat.call PyWqatak.shape (p :: r) = some (c, t)) :
    ∃ n k xs, PyWqatak.shape p = some (n, k) ∧ n ≤ r.length ∧ PyFlat.rows k (r.drop n) = some (xs, t) ∧ c = (p :: r.take n) :: xs := by
  unfold PyFlat.call at h
  simp only [] at h
  split at h
  · cases h
  · rename_i n k e
    split at h
    · cases h
    · rename_i hl
      split at h
      · cases h
      · rename_i xs u e2
        obtain ⟨e3, e4⟩ := Prod.mk.inj (Option.some.inj h)
        subst e3 e4
        exact ⟨n, k, xs, e, by omega, e2, rfl⟩
theorem two_of {r : List Int} (h : 2 ≤ r.length) : ∃ a b t, r = a :: b :: t := by
  match r, h with
  | a :: b :: t, _ => exact ⟨a, b, t, rfl⟩
theorem one_of {r : List Int} (h : 1 ≤ r.length) : ∃ a t, r = a :: t := by
  match r, h with
  | a :: t, _ => exact ⟨a, t, rfl⟩
theorem three_of {r : List Int} (h : 3 ≤ r.length) : ∃ a b c t, r = a :: b :: c :: t := by
  match r, h with
  | a :: b :: c :: t, _ => exact ⟨a, b, c, t, rfl⟩
theorem rd_of {p : Int} {r t : List Int} {c : List (List Int)} (h : PyFlat.call PyWqatak.shape (p :: r) = some (c, t)) :
    ∃ k, Rd (p :: r) k t ∧ ∀ s : Hist, WqatakNeutral.step s (PyWqatak.whole c) = ((Wqatak.step s k).1, ansOf (Wqatak.step s k).2) := by
  obtain ⟨n, k, xs, e, hn, hr, rfl⟩ := call_inv h
  unfold PyWqatak.shape at e
  by_cases h0 : p = 0
  · subst h0; cases e
    obtain ⟨x, rfl, e⟩ := rows1_inv hr
    rw [List.drop_zero] at e; subst e
    exact ⟨_, .add x t, fun s => rfl⟩
  rw [if_neg h0] at e
  by_cases h1 : p = 1
  · subst h1; cases e
    obtain ⟨a, u, rfl⟩ := one_of hn
    obtain ⟨rfl, e⟩ := rows0_inv hr
    cases e
    exact ⟨_, .parents a _, fun s => rfl⟩
  rw [if_neg h1] at e
  by_cases h2 : p = 2
  · subst h2; cases e
    obtain ⟨a, b, u, rfl⟩ := two_of hn
    obtain ⟨rfl, e⟩ := rows0_inv hr
    cases e
    exact ⟨_, .comes a b _, fun s => rfl⟩
  rw [if_neg h2] at e
  by_cases h3 : p = 3
  · subst h3; cases e
    obtain ⟨a, b, u, rfl⟩ := two_of hn
    obtain ⟨rfl, e⟩ := rows0_inv hr
    cases e
    exact ⟨_, .steps a b _, fun s => rfl⟩
  rw [if_neg h3] at e
  by_cases h4 : p = 4
  · subst h4; cases e
    obtain ⟨x, rfl, e⟩ := rows1_inv hr
    rw [List.drop_zero] at e; subst e
    exact ⟨_, .best x t, fun s => rfl⟩
  rw [if_neg h4] at e
  by_cases h5 : p = 5
  · subst h5; cases e
    obtain ⟨x, rfl, e⟩ := rows1_inv hr
    rw [List.drop_zero] at e; subst e
    exact ⟨_, .heads x t, fun s => rfl⟩
  rw [if_neg h5] at e
  by_cases h6 : p = 6
  · subst h6; cases e
    obtain ⟨x, y, rfl, e⟩ := rows2_inv hr
    rw [List.drop_zero] at e; subst e
    exact ⟨_, .walk x y t, fun s => rfl⟩
  rw [if_neg h6] at e
  by_cases h7 : p = 7
  · subst h7; cases e
    obtain ⟨a, b, u, rfl⟩ := two_of hn
    obtain ⟨rfl, e⟩ := rows0_inv hr
    cases e
    exact ⟨_, .between a b _, fun s => rfl⟩
  rw [if_neg h7] at e
  by_cases h8 : p = 8
  · subst h8; cases e
    obtain ⟨x, y, rfl, e⟩ := rows2_inv hr
    rw [List.drop_zero] at e; subst e
    exact ⟨_, .halve x y t, fun s => rfl⟩
  rw [if_neg h8] at e
  by_cases h9 : p = 9
  · subst h9; cases e
    obtain ⟨a, b, d, u, rfl⟩ := three_of hn
    obtain ⟨rfl, e⟩ := rows0_inv hr
    cases e
    exact ⟨_, .mark a b d _, fun s => rfl⟩
  rw [if_neg h9] at e
  by_cases h10 : p = 10
  · subst h10; cases e
    obtain ⟨a, u, rfl⟩ := one_of hn
    obtain ⟨rfl, e⟩ := rows0_inv hr
    cases e
    exact ⟨_, .marked a _, fun s => rfl⟩
  rw [if_neg h10] at e
  by_cases h11 : p = 11
  · subst h11; cases e
    obtain ⟨rfl, e⟩ := rows0_inv hr
    rw [List.drop_zero] at e; subst e
    exact ⟨_, .prune _, fun s => rfl⟩
  rw [if_neg h11] at e
  cases e

/-! ## an answer is short -/
theorem ansOf_length (a : Wqatak.Ans) : (ansOf a).length = a.nums.length + 1 := by simp [ansOf]
theorem filt_le {n : Nat} (hn : n ≤ 128) (f : Nat → Bool) : ((List.range n).filter f).length ≤ 128 :=
  Nat.le_trans (List.length_filter_le _ _) (by rw [List.length_range]; exact hn)
theorem step_len {s : Hist} (W : Wf s) (k : Wqatak.Call) : (Wqatak.step s k).2.nums.length ≤ 128 := by
  have hn : s.size ≤ 128 := W.few
  cases k with
  | add ps =>
    show (Wqatak.addOf s ps).2.nums.length ≤ 128
    unfold Wqatak.addOf
    split
    · exact Nat.zero_le _
    · split <;> exact Nat.zero_le _
  | parents a =>
    show (if s.has a = false then Wqatak.BAD else Wqatak.rowAns (s.parents.getD a [])).nums.length ≤ 128
    split
    · exact Nat.zero_le _
    · show (s.parents.getD a []).length ≤ 128
      rw [List.getD_eq_getElem?_getD]
      cases e : s.parents[a]? with
      | none => exact Nat.zero_le _
      | some r => exact Nat.le_trans (W.row r (List.mem_of_getElem? e)) (by decide)
  | comes a b =>
    show (Wqatak.two s a b _).nums.length ≤ 128
    unfold Wqatak.two
    split <;> exact Nat.zero_le _
  | steps a b =>
    show (Wqatak.two s a b fun _ => (match Mb.steps s a b with
      | some n => Wqatak.says (n : Nat)
      | none => Wqatak.NO)).nums.length ≤ 128
    unfold Wqatak.two
    split
    · exact Nat.zero_le _
    · show (match Mb.steps s a b with
        | some n => Wqatak.says (n : Nat)
        | none => Wqatak.NO).nums.length ≤ 128
      split <;> exact Nat.zero_le _
  | best as =>
    show (Wqatak.ofSet s as fun _ => Wqatak.rowAns (Mb.best s as)).nums.length ≤ 128
    unfold Wqatak.ofSet
    split
    · exact Nat.zero_le _
    · show (Mb.best s as).length ≤ 128
      rw [best_heads]
      exact filt_le hn _
  | heads as =>
    show (Wqatak.ofSet s as fun _ => Wqatak.rowAns (Mb.heads s as)).nums.length ≤ 128
    unfold Wqatak.ofSet
    split
    · exact Nat.zero_le _
    · exact filt_le hn _
  | walk as bs =>
    show (Wqatak.ofSets s as bs fun _ => Wqatak.rowAns (Mb.walk s as bs).reverse).nums.length ≤ 128
    unfold Wqatak.ofSets
    split
    · exact Nat.zero_le _
    · show (Mb.walk s as bs).reverse.length ≤ 128
      rw [List.length_reverse]
      exact filt_le hn _
  | between a b =>
    show (Wqatak.two s a b fun _ => Wqatak.rowAns (Mb.between s a b).reverse).nums.length ≤ 128
    unfold Wqatak.two
    split
    · exact Nat.zero_le _
    · show (Mb.between s a b).reverse.length ≤ 128
      rw [List.length_reverse]
      exact filt_le hn _
  | halve as bs =>
    show (Wqatak.ofSets s as bs fun _ => (match Mb.halve s (Mb.walk s as bs) with
      | some c => (⟨1, [c]⟩ : Wqatak.Ans)
      | none => Wqatak.says 0)).nums.length ≤ 128
    unfold Wqatak.ofSets
    split
    · exact Nat.zero_le _
    · show (match Mb.halve s (Mb.walk s as bs) with
        | some c => (⟨1, [c]⟩ : Wqatak.Ans)
        | none => Wqatak.says 0).nums.length ≤ 128
      split
      · exact (by decide : 1 ≤ 128)
      · exact Nat.zero_le _
  | mark m c any =>
    show (Wqatak.markOf s m c any).2.nums.length ≤ 128
    unfold Wqatak.markOf
    split
    · exact Nat.zero_le _
    · have h4 : ∀ q : Prop, [Decidable q] → (if q then (s, Wqatak.NO) else ({ s with marks := s.marks.set m (some c) }, Wqatak.says 0)).2.nums.length ≤ 128 := fun q _ => by
        split <;> exact Nat.zero_le _
      exact h4 _
  | marked m =>
    show (match s.marks[m]? with
      | some (some c) => Wqatak.says (c : Nat)
      | some none => Wqatak.NO
      | none => Wqatak.BAD).nums.length ≤ 128
    split <;> exact Nat.zero_le _
  | prune => exact Nat.zero_le _

/-! ## the loop over the calls -/
/-- what is still to do from here on: the rest of the list, the history, what has been given -/
structure Going (ns : List Int) (i : Nat) (s : Hist) (given : List Int) : Prop where
  wf : Wf s
  le : i ≤ ns.length
  more : ∃ f cs, PyFlat.calls PyWqatak.shape f (ns.drop i) = some cs ∧ PyWqatak.answers ns = given ++ PyFlat.told (PyFlat.played WqatakNeutral.step s (cs.map PyWqatak.whole)) ∧ given.length + 130 * cs.length ≤ 52000
theorem going_start {ns : List Int} (h : PyWqatak.answers_asked ns = true) : Going ns 0 new [] := by
  refine ⟨wf_new, Nat.zero_le _, ns.length, ?_⟩
  unfold PyWqatak.answers_asked PyWqatak.calls at h
  unfold PyWqatak.answers PyWqatak.calls
  cases e : PyFlat.calls PyWqatak.shape ns.length ns with
  | none => rw [e] at h; cases h
  | some cs =>
    rw [e] at h
    have h1 : (PyFlat.atMost 400 (cs.map PyWqatak.whole) && WqatakNeutral.asked (cs.map PyWqatak.whole)) = true := h
    rw [Bool.and_eq_true] at h1
    have h2 : (cs.map PyWqatak.whole).length ≤ 400 := of_decide_eq_true h1.1
    rw [List.length_map] at h2
    refine ⟨cs, by rw [List.drop_zero]; exact e, rfl, ?_⟩
    show 0 + 130 * cs.length ≤ 52000
    omega
theorem Going.turn {ns : List Int} {i : Nat} {s : Hist} {given : List Int} (G : Going ns i s given) (hi : i < ns.length) :
    ∃ k t, Rd (ns.drop i) k t ∧ given.length ≤ 52000 - 130 ∧ (ansOf (Wqatak.step s k).2).length ≤ 129 ∧
      ∀ j, j ≤ ns.length → ns.drop j = t → Going ns j (Wqatak.step s k).1 (given ++ ((ansOf (Wqatak.step s k).2).length : Int) :: ansOf (Wqatak.step s k).2) := by
  obtain ⟨f, cs, hc, ha, hl⟩ := G.more
  cases e : ns.drop i with
  | nil =>
    have := congrArg List.length e
    rw [List.length_drop] at this
    simp at this
    omega
  | cons p r =>
    rw [e] at hc
    cases f with
    | zero => cases hc
    | succ f =>
      unfold PyFlat.calls at hc
      split at hc
      · cases hc
      · rename_i c t ec
        split at hc
        · cases hc
        · rename_i cs' ec'
          have e1 : c :: cs' = cs := Option.some.inj hc
          subst e1
          obtain ⟨k, rd, st⟩ := rd_of ec
          have hs := step_len G.wf k
          rw [List.length_cons] at hl
          refine ⟨k, t, rd, by omega, by rw [ansOf_length]; omega, fun j hj ej => ⟨wf_step G.wf k, hj, f, cs', by rw [ej]; exact ec', ?_, ?_⟩⟩
          · rw [ha, List.map_cons, PyFlat.played, st s]
            show given ++ PyFlat.told (ansOf (Wqatak.step s k).2 :: _) = _
            rw [PyFlat.told, List.flatMap_cons]
            simp [PyFlat.told]
          · rw [List.length_append, List.length_cons, ansOf_length]
            omega
theorem Going.done {ns : List Int} {i : Nat} {s : Hist} {given : List Int} (G : Going ns i s given) (hi : ns.length ≤ i) : given = PyWqatak.answers ns := by
  obtain ⟨f, cs, hc, ha, hl⟩ := G.more
  rw [List.drop_eq_nil_of_le hi] at hc
  have e : cs = [] := by
    cases f <;> exact (Option.some.inj hc).symm
  subst e
  rw [ha]
  simp [PyFlat.played, PyFlat.told]
end Mm
end
section
set_option Elab.async false
set_option linter.all false
set_option maxRecDepth 100000
set_option maxHeartbeats 2000000
namespace Pr
open PySem PySem.Spec PyProof.Rows L2 Mb Mm
/-! ### the text by places -/
def top (i : Nat) : Stmt := PySem.Challenge.pw_mergebases_s01_answers.main.body.getD i (.Pass ⟨0, 0, 0, 0⟩)
/-! ### values -/
abbrev nv (n : Nat) : V := .int (n : Int)
def nvs (l : List Nat) : List V := l.map nv
def ov : Option Nat → V
  | none => .non
  | some n => nv n
theorem nvs_len (l : List Nat) : (nvs l).length = l.length := List.length_map ..
theorem nvs_at {l : List Nat} {i : Nat} {v : V} (h : (nvs l)[i]? = some v) : ∃ n, l[i]? = some n ∧ v = nv n := by
  unfold nvs at h
  rw [List.getElem?_map] at h
  obtain ⟨n, h1, h2⟩ := Option.map_eq_some_iff.mp h
  exact ⟨n, h1, h2.symm⟩
theorem nvs_ints (l : List Nat) : nvs l = (l.map Int.ofNat).map V.int := by
  unfold nvs
  rw [List.map_map]
  rfl
theorem nvs_get {l : List Nat} {i n : Nat} (h : l[i]? = some n) : (nvs l)[i]? = some (nv n) := by
  unfold nvs
  rw [List.getElem?_map, h]
  rfl
/-! ### attributes -/
def f1 (f : Str) (v : V) : List (Str × V) := [(f, v)]
def f2 (f : Str) (v : V) (g : Str) (u : V) : List (Str × V) := [(f, v), (g, u)]
theorem put1 (f : Str) (v u : V) : putF f u (f1 f v) = f1 f u := by
  show (if f = f then [(f, u)] else _) = _
  rw [if_pos rfl]
  rfl
theorem put12 {f g : Str} (v u : V) (h : ¬ f = g) : putF g u (f1 f v) = f2 f v g u := by
  show (if f = g then _ else (f, v) :: putF g u []) = _
  rw [if_neg h]
  rfl
theorem put2 {f g : Str} (v u z : V) (h : ¬ f = g) : putF g z (f2 f v g u) = f2 f v g z := by
  show (if f = g then _ else (f, v) :: (if g = g then [(g, z)] else _)) = _
  rw [if_neg h, if_pos rfl]
  rfl
theorem look1 (f : Str) (v : V) : (f1 f v).lookup f = some v := by
  show List.lookup f [(f, v)] = some v
  simp [List.lookup]
theorem look1_no {f : Str} (v : V) {m : Str} (h : ¬ m = f) : (f1 f v).lookup m = none := by
  show List.lookup m [(f, v)] = none
  have hb : (m == f) = false := beq_eq_false_iff_ne.mpr h
  simp [List.lookup, hb]
theorem look2a (f : Str) (v : V) (g : Str) (u : V) : (f2 f v g u).lookup f = some v := by
  show List.lookup f [(f, v), (g, u)] = some v
  simp [List.lookup]
theorem look2b {f : Str} (v : V) {g : Str} (u : V) (h : ¬ g = f) : (f2 f v g u).lookup g = some u := by
  show List.lookup g [(f, v), (g, u)] = some u
  have hb : (g == f) = false := beq_eq_false_iff_ne.mpr h
  simp [List.lookup, hb]
theorem look2_no {f : Str} (v : V) {g : Str} (u : V) {m : Str} (h : ¬ m = f) (h' : ¬ m = g) : (f2 f v g u).lookup m = none := by
  show List.lookup m [(f, v), (g, u)] = none
  have hb : (m == f) = false := beq_eq_false_iff_ne.mpr h
  have hb' : (m == g) = false := beq_eq_false_iff_ne.mpr h'
  simp [List.lookup, hb, hb']
/-! ### heaps -/
/-- all that was tracked is as it was, but for what stands at r -/
def But (r : Addr) (H H' : Hp) : Prop := ∀ b o, H b = some o → b ≠ r → H' b = some o
theorem But.trans {r : Addr} {H H1 H2 : Hp} (a : But r H H1) (b : But r H1 H2) : But r H H2 := fun c o h n => b c o (a c o h n) n
theorem same_new {H : Hp} {p : Addr} {o : HO} (h : H p = none) : Same H (upd H p o) := fun b u e => by
  rw [upd_ne (ne_of_none e h)]
  exact e
theorem But.upd (H : Hp) (r : Addr) (o : HO) : But r H (upd H r o) := fun b u e n => by
  rw [upd_ne n]
  exact e
theorem seq_keep {K : PySem.W.Frag} {H H' : Hp} {a : Addr} {xs : List V} (h : SqL K H a xs) (k : ∀ o, H a = some o → H' a = some o) : SqL K H' a xs := by
  rcases h with (h | ⟨o, h⟩) | h
  · exact .inl (.inl (k _ h))
  · exact .inl (.inr ⟨o, k _ h⟩)
  · exact .inr h
/-! ### the commits at c, their list at l, its rows -/
structure Rows (H : Hp) (rows : List Addr) (P : List (List Nat)) : Prop where
  len : rows.length = P.length
  at_ : ∀ (i : Nat) (r : Addr) (row : List Nat), rows[i]? = some r → P[i]? = some row → H r = some (.lst (nvs row))
structure CAtL (CC : Addr) (H : Hp) (c l : Addr) (rows : List Addr) (P : List (List Nat)) : Prop where
  obj : ∃ dc, H c = some (.ins CC dc (f1 "parents" (.ref l)))
  lst : H l = some (.lst (rows.map V.ref))
  rws : Rows H rows P
  out : l ∉ rows
def CAt (CC : Addr) (H : Hp) (c : Addr) (P : List (List Nat)) : Prop := ∃ l rows, CAtL CC H c l rows P
theorem Rows.keep {H H' : Hp} {rows : List Addr} {P : List (List Nat)} (R : Rows H rows P) (k : ∀ r ∈ rows, ∀ o, H r = some o → H' r = some o) : Rows H' rows P :=
  ⟨R.len, fun i r row h1 h2 => k r (List.mem_of_getElem? h1) _ (R.at_ i r row h1 h2)⟩
theorem CAtL.same {CC : Addr} {H H' : Hp} {c l : Addr} {rows : List Addr} {P : List (List Nat)} (C : CAtL CC H c l rows P) (s : Same H H') : CAtL CC H' c l rows P :=
  ⟨let ⟨d, h⟩ := C.obj; ⟨d, s _ _ h⟩, s _ _ C.lst, C.rws.keep fun r _ o e => s r o e, C.out⟩
theorem CAt.same {CC : Addr} {H H' : Hp} {c : Addr} {P : List (List Nat)} (C : CAt CC H c P) (s : Same H H') : CAt CC H' c P :=
  let ⟨l, rows, h⟩ := C; ⟨l, rows, h.same s⟩
/-- the row of a commit: its address -/
theorem Rows.row {H : Hp} {rows : List Addr} {P : List (List Nat)} (R : Rows H rows P) {i : Nat} (hi : i < P.length) : ∃ r, rows[i]? = some r ∧ H r = some (.lst (nvs (P.getD i []))) := by
  have h1 : i < rows.length := by rw [R.len]; exact hi
  refine ⟨rows[i], List.getElem?_eq_getElem h1, ?_⟩
  refine R.at_ i _ _ (List.getElem?_eq_getElem h1) ?_
  rw [List.getD_eq_getElem?_getD, List.getElem?_eq_getElem hi]
  rfl
theorem refs_at {rows : List Addr} {i : Nat} {r : Addr} (h : rows[i]? = some r) : (rows.map V.ref)[i]? = some (.ref r) := by
  rw [List.getElem?_map, h]
  rfl
/-! ### the marks at m, their list at t -/
structure MAtL (CM : Addr) (H : Hp) (m t : Addr) (ms : List (Option Nat)) : Prop where
  obj : ∃ dm, H m = some (.ins CM dm (f1 "targets" (.ref t)))
  lst : H t = some (.lst (ms.map ov))
def MAt (CM : Addr) (H : Hp) (m : Addr) (ms : List (Option Nat)) : Prop := ∃ t, MAtL CM H m t ms
/-! ### the reader at r -/
def RAt (CR : Addr) (H : Hp) (r a : Addr) (i : Nat) : Prop := ∃ dr, H r = some (.ins CR dr (f2 "numbers" (.ref a) "place" (nv i)))
/-! ### defs and methods in short -/
section
variable (P : Program) (w : World) (K : PySem.W.Frag) (mg : Str → Option Value) (base : Heap)
def Mt (C : Addr) (k : Nat) (m : Str) (ps : List Str) (sp : Sp) : Prop := ∃ f fd, FnOk P w K mg base CX0 k f fd ps sp ∧ Meth K C m f ∧ Binds K fd ps []
def Df (k : Nat) (x : Str) (ps : List Str) (sp : Sp) : Prop := ∃ f fd, FnOk P w K mg base CX0 k f fd ps sp ∧ mg x = some (.ref f) ∧ PySem.W.keepIn K (.ref f) = true ∧ Binds K fd ps []
def Mo (C : Addr) (k : Nat) (x : Str) (ps : List Str) (sp : Sp) : Prop := ∃ f fd, FnOk P w K mg base CX0 k f fd ps sp ∧ Mk K C f ∧ mg x = some (.ref C) ∧ Binds K fd ps []
end
section
variable {X : Cx} {C : Addr} {k : Nat} {m x : Str} {ps : List Str} {sp : Sp} {o e : Expr} {es : List Expr} {ta : TE} {t : TA} {p pos apos : Pos}
theorem pe_mt {pl : Sem Bool} (M : Mt X.prog X.w X.K X.mg X.base C k m ps sp) (c : Cls X.K C) (hr : Room k X.A) (he : PE X o ta) (ha : PA X (e :: es) t)
    (hst : starEach (e :: es) X.env = (false, eval e X.env) :: starEach es X.env := by rfl) (hpl : (backTo pos (starEach es X.env)).any (·.1) = false := by rfl)
    (ht : eval (.Call (.Attribute o m apos) (e :: es) [] pos) X.env = (do
      let ov ← eval o X.env
      standAt apos.atName
      let (f, first) ← holding [ov] (getMethod ov m pl)
      callWith pos f first (backTo pos (starEach (e :: es) X.env)) (backToKw pos (keywordEach [] X.env))) := by rfl) :
    PE X (.Call (.Attribute o m apos) (e :: es) [] pos) (tMeth C m sp [] E0 ta t) := by
  obtain ⟨f, fd, F, hm, hb⟩ := M
  exact pe_meth he c hm F hr hb .nil pass0 ha hst hpl ht
theorem pe_mt0 {pl : Sem Bool} (M : Mt X.prog X.w X.K X.mg X.base C k m ps sp) (c : Cls X.K C) (hr : Room k X.A) (he : PE X o ta)
    (ht : eval (.Call (.Attribute o m apos) [] [] pos) X.env = (do
      let ov ← eval o X.env
      standAt apos.atName
      let (f, first) ← holding [ov] (getMethod ov m pl)
      callWith pos f first (backTo pos (starEach [] X.env)) (backToKw pos (keywordEach [] X.env))) := by rfl) :
    PE X (.Call (.Attribute o m apos) [] [] pos) (tMeth C m sp [] E0 ta tNil) := by
  obtain ⟨f, fd, F, hm, hb⟩ := M
  exact pe_meth0 he c hm F hr hb .nil pass0 ht
theorem pe_df (M : Df X.prog X.w X.K X.mg X.base k x ps sp) (hr : Room k X.A) (hg : Gl X x) (ha : PA X (e :: es) t) (hdb : (x == ("__debug__" : Str)) = false := by decide)
    (he : starEach (e :: es) X.env = (false, eval e X.env) :: starEach es X.env := by rfl) (hpl : (backTo pos (starEach es X.env)).any (·.1) = false := by rfl) :
    PE X (.Call (.Name x p) (e :: es) [] pos) (tCall sp [] E0 t) := by
  obtain ⟨f, fd, F, hm, hk, hb⟩ := M
  exact pe_call F hr hg hm hk hb .nil pass0 ha hdb he hpl
theorem pe_mo (M : Mo X.prog X.w X.K X.mg X.base C k x ps sp) (hr : Room (k + 1) X.A) (hg : Gl X x) (ha : PA X (e :: es) t) (hdb : (x == ("__debug__" : Str)) = false := by decide)
    (he : starEach (e :: es) X.env = (false, eval e X.env) :: starEach es X.env := by rfl) (hpl : (backTo pos (starEach es X.env)).any (·.1) = false := by rfl) :
    PE X (.Call (.Name x p) (e :: es) [] pos) (tMake C sp [] E0 t) := by
  obtain ⟨f, fd, F, hM, hm, hb⟩ := M
  exact pe_make hM F hr hg hm hb .nil pass0 ha hdb he hpl
theorem pe_mo0 (M : Mo X.prog X.w X.K X.mg X.base C k x ps sp) (hr : Room (k + 1) X.A) (hg : Gl X x) (hdb : (x == ("__debug__" : Str)) = false := by decide) :
    PE X (.Call (.Name x p) [] [] pos) (tMake C sp [] E0 tNil) := by
  obtain ⟨f, fd, F, hM, hm, hb⟩ := M
  exact pe_make0 hM F hr hg hm hb .nil pass0 hdb
/-- a list made anew from a list, item by item: f tells what becomes of an item (none: it is left out) -/
theorem lc_go {K : PySem.W.Frag} {a D : Addr} {j : Nat} {xs : List V} {tt : TT} {te : TE} {σ : L2.St} {H1 : Hp} {Qd : Hp → Prop} (f : V → Option V) (hl : SqL K H1 a xs) (hD : H1 D = none) (hz : xs.length ≤ sizeLine)
    (hs : ∀ x acc, x ∈ xs → ∃ b, (∀ R : Bool → Hp → Prop, R b (upd H1 D (.lst acc)) → tt ((σ.set j none).set j (some x)) (upd H1 D (.lst acc)) R) ∧
      (if b = true then ∃ y, f x = some y ∧ ∀ R : VK, R y (upd H1 D (.lst acc)) → te ((σ.set j none).set j (some x)) (upd H1 D (.lst acc)) R else f x = none))
    (hd : Qd (upd H1 D (.lst (xs.filterMap f)))) :
    ∃ W : Nat → Nat → Hp → Prop, (∃ m, W 0 m (upd H1 D (.lst []))) ∧ ∀ i m H, W i m H →
      ((Itl K a).stop i H ∧ Qd H) ∨ ((Itl K a).go i H ∧ ∃ Nx : Hp → Prop, (∀ H', Nx H' → ∃ m', m' < m ∧ W (i + 1) m' H') ∧ ∀ x H', (Itl K a).yld i H x H' → gName j x (wipe σ [j]) H' fun σ2 H2 => wipe σ2 [j] = wipe σ [j] ∧ tt σ2 H2 fun b H3 =>
        if b = true then te σ2 H3 fun y H4 => ∃ acc, H4 D = some (.lst acc) ∧ acc.length < sizeLine ∧ Nx (upd H4 D (.lst (acc ++ [y]))) else Nx H3) := by
  refine lc_list (xs := xs) (fun i H => H = upd H1 D (.lst ((xs.take i).filterMap f))) rfl (fun i H _ e => ?_) (fun i x H hx e => ?_) fun H e => ?_
  · subst e
    exact (same_new hD).seq hl
  · subst e
    have tk : xs.take (i + 1) = xs.take i ++ [x] := by
      rw [List.take_add_one, hx]
      rfl
    refine ⟨?_, ?_⟩
    · show (((σ.set j none).set j (some x)).set j none) = σ.set j none
      rw [List.set_set, List.set_set]
    · obtain ⟨b, h1, h2⟩ := hs x ((xs.take i).filterMap f) (List.mem_of_getElem? hx)
      refine h1 _ ?_
      cases b with
      | false =>
        rw [if_neg Bool.false_ne_true] at h2 ⊢
        rw [tk, List.filterMap_append]
        simp [h2]
      | true =>
        rw [if_pos rfl] at h2 ⊢
        obtain ⟨y, h3, h4⟩ := h2
        refine h4 _ ⟨_, upd_same, ?_, ?_⟩
        · have h5 := List.length_filterMap_le f (xs.take i)
          have h6 : i < xs.length := (List.getElem?_eq_some_iff.mp hx).1
          rw [List.length_take] at h5
          omega
        · rw [upd_upd, tk, List.filterMap_append]
          simp [h3]
  · subst e
    rw [List.take_length]
    exact hd
end
/-! ### the text's classes and names -/
structure Txt (K : PySem.W.Frag) (mg : Str → Option Value) (CC CM CR CH : Addr) : Prop where
  cC : Cls K CC
  cM : Cls K CM
  cR : Cls K CR
  cH : Cls K CH
  nP : NoAttr K CC "parents"
  nT : NoAttr K CM "targets"
  nN : NoAttr K CR "numbers"
  nL : NoAttr K CR "place"
  nC : NoAttr K CH "commits"
  nM : NoAttr K CH "marks"
  len : mg "len" = none
  list : mg "list" = none
  range : mg "range" = none
  any : mg "any" = none
  all : mg "all" = none
  set : mg "set" = none
  sorted : mg "sorted" = none
  reversed : mg "reversed" = none
  min : mg "min" = none
  num : ∀ p ∈ ([("ADD", 0), ("PARENTS", 1), ("COMES_FROM", 2), ("STEPS", 3), ("BEST", 4), ("HEADS", 5), ("WALK", 6), ("BETWEEN", 7), ("HALVE", 8), ("MARK", 9), ("MARKED", 10), ("PRUNE", 11), ("MOST_COMMITS", 128), ("MOST_PARENTS", 8), ("MOST_IN_SET", 64), ("HOW_MANY_MARKS", 64)] : List (Str × Int)), ∃ t, mg p.1 = some (.int p.2 t)
theorem bt_len : bootBuiltins "len" = some (.builtin "len") := by decide +kernel
theorem bt_list : bootBuiltins "list" = some (.type "list") := by decide +kernel
theorem bt_range : bootBuiltins "range" = some (.type "range") := by decide +kernel
theorem bt_any : bootBuiltins "any" = some (.builtin "any") := by decide +kernel
theorem bt_all : bootBuiltins "all" = some (.builtin "all") := by decide +kernel
theorem bt_set : bootBuiltins "set" = some (.type "set") := by decide +kernel
theorem bt_sorted : bootBuiltins "sorted" = some (.builtin "sorted") := by decide +kernel
theorem bt_min : bootBuiltins "min" = some (.builtin "min") := by decide +kernel
end Pr
end
section
set_option Elab.async false
set_option linter.all false
set_option maxRecDepth 100000
set_option maxHeartbeats 4000000
namespace Pr
open PySem PySem.Spec PyProof.Rows L2 Mb Mm
abbrev cI : Stmt := inClass (top 1) 0
abbrev cTotal : Stmt := inClass (top 1) 1
abbrev cAdd : Stmt := inClass (top 1) 2
abbrev cPar : Stmt := inClass (top 1) 3
abbrev cReached : Stmt := inClass (top 1) 4
/-! ### promises -/
def spCI (CC : Addr) : Sp := fun vs H Q _ => ∃ (p dx : Addr), vs = [.ref p] ∧ H p = some (.ins CC dx []) ∧ ∀ (H' : Hp) (l : Addr), CAtL CC H' p l [] [] → H l = none → But p H H' → Q .non H'
def spTotal (CC : Addr) : Sp := fun vs H Q _ => ∃ (c : Addr) (P : List (List Nat)), vs = [.ref c] ∧ CAt CC H c P ∧ Q (nv P.length) H
def spAdd (CC : Addr) (K : PySem.W.Frag) : Sp := fun vs H Q _ => ∃ (c a l : Addr) (rows : List Addr) (P : List (List Nat)) (row : List Nat), vs = [.ref c, .ref a] ∧ CAtL CC H c l rows P ∧ SqL K H a (nvs row) ∧ P.length < 1000 ∧
  ∀ (H' : Hp) (r : Addr), CAtL CC H' c l (rows ++ [r]) (P ++ [row]) → H r = none → But l H H' → Q (nv P.length) H'
def spPar (CC : Addr) : Sp := fun vs H Q _ => ∃ (c : Addr) (P : List (List Nat)) (i : Nat), vs = [.ref c, nv i] ∧ CAt CC H c P ∧ i < P.length ∧
  ∀ (H' : Hp) (p : Addr), Same H H' → H p = none → H' p = some (.lst (nvs (P.getD i []))) → Q (.ref p) H'
def spReached (CC : Addr) (K : PySem.W.Frag) : Sp := fun vs H Q _ => ∃ (c a : Addr) (P : List (List Nat)) (starts : List Nat), vs = [.ref c, .ref a] ∧ CAt CC H c P ∧ SqL K H a (nvs starts) ∧ (∀ x ∈ starts, x < P.length) ∧ P.length ≤ 128 ∧ Low P ∧
  ∀ (H' : Hp) (p : Addr), Same H H' → H p = none → H' p = some (.lst ((reached P starts).map V.bl)) → Q (.ref p) H'
section
variable {P : Program} {w : World} {K : PySem.W.Frag} {mg : Str → Option Value} {base : Heap} {CC CM CR CH f : Addr} {fd : FuncData}
theorem scCI : FnScope ["self"] ["self"] (defScope cI) := ⟨rfl, rfl, rfl, by decide +kernel, rfl, by decide +kernel, by decide +kernel⟩
theorem ok_cI (F : Fun K "__init__" "Commits.__init__" cI f fd) (T : Txt K mg CC CM CR CH) : FnOk P w K mg base CX0 1 f fd ["self"] (spCI CC) := by
  refine F.ok scCI (fun vs H Q E h => ?_) (fun cdv A outer s H vs Q E hr h => ?_)
  · obtain ⟨p, dx, rfl, _⟩ := h
    rfl
  · obtain ⟨p, dx, rfl, hp, k⟩ := h
    refine ⟨_, pss_one (ps_fld (pv 0) (pe_lst pa_nil) rfl), ?_⟩
    refine ⟨Nat.zero_le _, fun l hl => ?_⟩
    have hpl : p ≠ l := ne_of_none hp hl
    refine ⟨_, rfl, p, CC, dx, [], rfl, by rw [upd_ne hpl]; exact hp, T.cC, T.nP, (by show 0 < 1000; decide), ?_⟩
    refine k _ l ⟨⟨dx, upd_same⟩, by rw [upd_ne (Ne.symm hpl), upd_same]; rfl, ⟨rfl, fun i r row h _ => by simp at h⟩, by simp⟩ hl fun b o e hb => ?_
    rw [upd_ne hb]
    exact same_new hl b o e
theorem scTotal : FnScope ["self"] ["self"] (defScope cTotal) := ⟨rfl, rfl, rfl, by decide +kernel, rfl, by decide +kernel, by decide +kernel⟩
theorem ok_total (F : Fun K "total" "Commits.total" cTotal f fd) (T : Txt K mg CC CM CR CH) : FnOk P w K mg base CX0 1 f fd ["self"] (spTotal CC) := by
  refine F.ok scTotal (fun vs H Q E h => ?_) (fun cdv A outer s H vs Q E hr h => ?_)
  · obtain ⟨c, Ps, rfl, _⟩ := h
    rfl
  · obtain ⟨c, Ps, rfl, ⟨l, rows, C⟩, k⟩ := h
    obtain ⟨dc, ho⟩ := C.obj
    refine ⟨_, pss_one (ps_ret (pe_callB call_len_seq (by rfl) T.len bt_len (pa_cons (pe_fld (pv 0) rfl) pa_nil))), ?_⟩
    refine ⟨_, rfl, c, CC, dc, _, _, rfl, ho, T.cC, T.nP, look1 _ _, l, _, rfl, .inl (SqL.of C.lst), ?_⟩
    rw [List.length_map, C.rws.len]
    exact k
theorem scAdd : FnScope ["self", "parents"] ["self", "parents"] (defScope cAdd) := ⟨rfl, rfl, rfl, by decide +kernel, rfl, by decide +kernel, by decide +kernel⟩
theorem ok_add (F : Fun K "add_commit" "Commits.add_commit" cAdd f fd) (T : Txt K mg CC CM CR CH) : FnOk P w K mg base CX0 1 f fd ["self", "parents"] (spAdd CC K) := by
  refine F.ok scAdd (fun vs H Q E h => ?_) (fun cdv A outer s H vs Q E hr h => ?_)
  · obtain ⟨c, a, l, rows, Ps, row, rfl, _⟩ := h
    rfl
  · obtain ⟨c, a, l, rows, Ps, row, rfl, C, ha, hn, k⟩ := h
    obtain ⟨dc, ho⟩ := C.obj
    refine ⟨_, pss_cons (ps_expr (pe_bm PySem.F.plainAttrs_list PySem.F.slot_list_append PySem.F.type_list_append mt_append (pe_fld (pv 0) rfl)
        (pa_cons (pe_callTy call_list_of (by rfl) T.list bt_list (pa_cons (pv 1) pa_nil)) pa_nil)))
      (pss_one (ps_ret (pe_op op_sub (pe_callB call_len_seq (by rfl) T.len bt_len (pa_cons (pe_fld (pv 0) rfl) pa_nil)) pe_int))), ?_⟩
    refine ⟨_, rfl, c, CC, dc, _, _, rfl, ho, T.cC, T.nP, look1 _ _, .inl ⟨rfl, _, SqL.of C.lst⟩, _, rfl, a, _, rfl, .inl ha, fun r hr => ?_⟩
    have hlr : l ≠ r := ne_of_none C.lst hr
    have hcr : c ≠ r := ne_of_none ho hr
    have hcl : c ≠ l := ne_of ho C.lst (by intro z; cases z)
    refine ⟨l, _, _, rfl, rfl, by rw [upd_ne hlr]; exact C.lst, by rw [List.length_map, C.rws.len, sizeLine_eq]; omega, ?_⟩
    have e1 : (rows.map V.ref ++ [V.ref r]) = (rows ++ [r]).map V.ref := by simp
    rw [e1]
    have ho' : (upd (upd H r (.lst (nvs row))) l (.lst ((rows ++ [r]).map V.ref))) c = some (.ins CC dc (f1 "parents" (.ref l))) := by
      rw [upd_ne hcl, upd_ne hcr]
      exact ho
    refine ⟨_, rfl, c, CC, dc, _, _, rfl, ho', T.cC, T.nP, look1 _ _, l, _, rfl, .inl (SqL.of upd_same), _, _, rfl, rfl, ?_⟩
    have e2 : ((((rows ++ [r]).map V.ref).length : Nat) : Int) - 1 = (Ps.length : Int) := by
      rw [List.length_map, List.length_append, C.rws.len]
      simp
    show Q (.int (((((rows ++ [r]).map V.ref).length : Nat) : Int) - 1)) _
    rw [e2]
    have hrl : r ≠ l := Ne.symm hlr
    refine k _ r ⟨⟨dc, ho'⟩, upd_same, ⟨by simp [C.rws.len], fun i q rw' h1 h2 => ?_⟩, ?_⟩ hr fun b o e hb => ?_
    · rcases Nat.lt_trichotomy i rows.length with hi | hi | hi
      · rw [List.getElem?_append_left hi] at h1
        rw [List.getElem?_append_left (by rw [← C.rws.len]; exact hi)] at h2
        have hq := C.rws.at_ i q rw' h1 h2
        have hql : q ≠ l := fun z => C.out (z ▸ List.mem_of_getElem? h1)
        rw [upd_ne hql, upd_ne (ne_of_none hq hr)]
        exact hq
      · subst hi
        rw [List.getElem?_concat_length] at h1
        rw [C.rws.len, List.getElem?_concat_length] at h2
        cases h1
        cases h2
        rw [upd_ne hrl, upd_same]
      · rw [List.getElem?_eq_none (by simp; omega)] at h1
        cases h1
    · rw [List.mem_append, not_or]
      exact ⟨C.out, by simpa using hlr⟩
    · rw [upd_ne hb]
      exact same_new hr b o e
theorem scPar : FnScope ["self", "commit"] ["self", "commit"] (defScope cPar) := ⟨rfl, rfl, rfl, by decide +kernel, rfl, by decide +kernel, by decide +kernel⟩
theorem ok_par (F : Fun K "parents_of" "Commits.parents_of" cPar f fd) (T : Txt K mg CC CM CR CH) : FnOk P w K mg base CX0 1 f fd ["self", "commit"] (spPar CC) := by
  refine F.ok scPar (fun vs H Q E h => ?_) (fun cdv A outer s H vs Q E hr h => ?_)
  · obtain ⟨c, Ps, i, rfl, _⟩ := h
    rfl
  · obtain ⟨c, Ps, i, rfl, ⟨l, rows, C⟩, hi, k⟩ := h
    obtain ⟨dc, ho⟩ := C.obj
    obtain ⟨r, hr1, hr2⟩ := C.rws.row hi
    refine ⟨_, pss_one (ps_ret (pe_callTy call_list_of (by rfl) T.list bt_list (pa_cons (pe_ix ix_list (pe_fld (pv 0) rfl) (pv 1) (fun _ _ => rfl)) pa_nil))), ?_⟩
    refine ⟨_, rfl, c, CC, dc, _, _, rfl, ho, T.cC, T.nP, look1 _ _, _, rfl, l, _, _, _, rfl, rfl, SqL.of C.lst, atI_nat (refs_at hr1), r, _, rfl, .inl (SqL.of hr2), fun p hp => ?_⟩
    exact k _ p (same_new hp) hp upd_same
end
end Pr
end
section
set_option Elab.async false
set_option linter.all false
set_option maxRecDepth 100000
set_option maxHeartbeats 4000000
namespace Pr
open PySem PySem.Spec PyProof.Rows L2 Mb Mm
theorem ixN_nat {n j : Nat} (h : j < n) : ixN n (j : Int) = some j := by
  unfold ixN
  rw [if_pos (by omega), if_pos (by omega)]
  simp
theorem rep_flat {α : Type} (x : α) : ∀ n : Nat, (List.replicate n [x]).flatten = List.replicate n x
  | 0 => rfl
  | n + 1 => by
    rw [List.replicate_succ, List.flatten_cons, rep_flat x n, List.replicate_succ]
    rfl
theorem take_snoc {α : Type} {l : List α} {i : Nat} {x : α} (h : l[i]? = some x) : l.take (i + 1) = l.take i ++ [x] := by
  rw [List.take_add_one, h]
  rfl
theorem mark_snoc {row : List Nat} {s : List Bool} {i x : Nat} (h : row[i]? = some x) : (markAll (row.take i) s).set x true = markAll (row.take (i + 1)) s := by
  rw [take_snoc h]
  unfold markAll
  rw [List.foldl_append]
  rfl
theorem bls_set (l : List Bool) (j : Nat) : (l.map V.bl).set j (.bl true) = (l.set j true).map V.bl := (List.map_set ..).symm
theorem bls_at {l : List Bool} {j : Nat} (h : j < l.length) : (l.map V.bl)[j]? = some (.bl (l.getD j false)) := by
  rw [List.getElem?_map, List.getElem?_eq_getElem h, List.getD_eq_getElem?_getD, List.getElem?_eq_getElem h]
  rfl
theorem same_write {H H' : Hp} {p : Addr} {o : HO} (hp : H p = none) (s : Same H H') : Same H (upd H' p o) := fun b u e => by
  rw [upd_ne (ne_of_none e hp)]
  exact s b u e
structure Gd (P : List (List Nat)) : Prop where
  low : Low P
  few : P.length ≤ 128
  row : ∀ r ∈ P, r.length ≤ 8
theorem Gd.len {P : List (List Nat)} (G : Gd P) (i : Nat) : (P.getD i []).length ≤ 8 := by
  rw [List.getD_eq_getElem?_getD]
  cases e : P[i]? with
  | none => exact Nat.zero_le _
  | some r => exact G.row r (List.mem_of_getElem? e)
theorem gd_wf {s : Hist} (W : Wf s) : Gd s.parents := ⟨W.low, W.few, W.row⟩
theorem ixK {X : Cx} {K : PySem.W.Frag} (h : X.K = K := by rfl) : IxR X (rIxL K) := h ▸ ix_list
theorem fldK {X : Cx} {K : PySem.W.Frag} {e : Expr} {f : Str} {pos : Pos} {ta : TE} (he : PE X e ta) (hb : attributeBase e f X.env (eval e X.env) = eval e X.env) (h : X.K = K := by rfl) : PE X (.Attribute e f pos) (tFld K ta f) := h ▸ pe_fld he hb
section
variable {P : Program} {w : World} {K : PySem.W.Frag} {mg : Str → Option Value} {base : Heap} {CC CM CR CH f : Addr} {fd : FuncData}
theorem scReached : FnScope ["self", "starts", "seen", "start", "commit", "parent"] ["self", "starts"] (defScope cReached) := ⟨rfl, rfl, rfl, by decide +kernel, rfl, by decide +kernel, by decide +kernel⟩
theorem ok_reached (F : Fun K "reached" "Commits.reached" cReached f fd) (T : Txt K mg CC CM CR CH) : FnOk P w K mg base CX0 1 f fd ["self", "starts"] (spReached CC K) := by
  refine F.ok scReached (fun vs H Q E h => ?_) (fun cdv A outer s H vs Q E hr h => ?_)
  · obtain ⟨c, a, Ps, starts, rfl, _⟩ := h
    rfl
  · obtain ⟨c, a, Ps, starts, rfl, ⟨l, rows, C⟩, ha, hst, h128, lw, k⟩ := h
    obtain ⟨dc, ho⟩ := C.obj
    have nd := scReached.nd
    refine ⟨_, pss_cons (ps_set (i := 2) nd rfl (Or.inl rfl) (pe_op op_rep (pe_lst (pa_cons pe_bl pa_nil)) (pe_callB call_len_seq (by rfl) T.len bt_len (pa_cons (pe_fld (pv 0) rfl) pa_nil))))
      (pss_cons (ps_for PassesOwn.never rfl (pi_list (pv 1)) (pg_name (i := 3) nd rfl (Or.inl rfl)) (pss_one (ps_asg pe_bl (pg_sub (pv 2) (pv 3) set_list))))
      (pss_cons (ps_for PassesOwn.never rfl (pi_range3 rfl T.range (pa_cons (pe_op op_sub (pe_callB call_len_seq (by rfl) T.len bt_len (pa_cons (pe_fld (pv 0) rfl) pa_nil)) pe_int) (pa_cons (pe_un un_neg pe_int) (pa_cons (pe_un un_neg pe_int) pa_nil)))) (pg_name (i := 4) nd rfl (Or.inl rfl))
        (pss_one (ps_if (pt_val (pe_ix ix_list (pv 2) (pv 4) (fun _ _ => rfl)))
          (pss_one (ps_for PassesOwn.never rfl (pi_list (pe_ix ix_list (pe_fld (pv 0) rfl) (pv 4) (fun _ _ => rfl))) (pg_name (i := 5) nd rfl (Or.inl rfl)) (pss_one (ps_asg pe_bl (pg_sub (pv 2) (pv 5) set_list))))) pss_nil)))
      (pss_one (ps_ret (pv 2))))), ?_⟩
    -- seen = [False] * len(self.parents)
    refine ⟨(by show 1 ≤ sizeLine; decide), fun q hq => ?_⟩
    have s1 : Same H (upd H q (.lst [.bl false])) := same_new hq
    have C1 := C.same s1
    obtain ⟨dc1, ho1⟩ := C1.obj
    refine ⟨_, rfl, c, CC, dc1, _, _, rfl, ho1, T.cC, T.nP, look1 _ _, l, _, rfl, .inl (SqL.of C1.lst), ?_⟩
    rw [List.length_map, C.rws.len]
    refine ⟨q, _, _, rfl, rfl, upd_same, by omega, by omega, by simp [sizeLine_eq]; omega, fun p hp => ?_⟩
    have hp0 : H p = none := s1.free hp
    have s2 : Same H (upd (upd H q (.lst [.bl false])) p (.lst ((List.replicate Ps.length false).map V.bl))) := same_write hp0 s1
    have e0 : (List.replicate (Ps.length : Int).toNat [V.bl false]).flatten = (List.replicate Ps.length false).map V.bl := by
      rw [rep_flat, List.map_replicate]
      rfl
    rw [e0]
    -- for start in starts: seen[start] = True
    refine ⟨_, rfl, a, rfl, ⟨_, s2.seq ha⟩, for_list (K := K) (a := a) (xs := nvs starts) (fun i σ H' => ∃ v : Option V, σ = [some (.ref c), some (.ref a), some (.ref p), v, none, none] ∧ Same H H' ∧ H' p = some (.lst ((markAll (starts.take i) (List.replicate Ps.length false)).map V.bl)))
      ⟨none, rfl, s2, upd_same⟩ (fun i σ H' _ ⟨_, _, s5, _⟩ => s5.seq ha) ?_ ?_⟩
    · rintro i y σ H' hi ⟨v, rfl, s5, h5⟩
      obtain ⟨x, hx, rfl⟩ := nvs_at hi
      have hlt : x < Ps.length := hst x (List.mem_of_getElem? hx)
      refine ⟨_, rfl, _, rfl, p, _, _, x, rfl, rfl, h5, ixN_nat (by rw [List.length_map, markAll_length, List.length_replicate]; exact hlt), _, rfl, same_write hp0 s5, ?_⟩
      rw [upd_same, bls_set, mark_snoc hx]
    · rintro σ H2 ⟨v, rfl, s5, h5⟩
      rw [nvs_len, List.take_length] at h5
      have C2 := C.same s5
      obtain ⟨dc2, ho2⟩ := C2.obj
      refine ⟨_, rfl, c, CC, dc2, _, _, rfl, ho2, T.cC, T.nP, look1 _ _, l, _, rfl, .inl (SqL.of C2.lst), _, _, rfl, rfl, _, rfl, _, rfl, _, _, _, Ps.length, rfl, ?_, ?_⟩
      · have e := RgC.neg (i := ((rows.map V.ref).length : Int) - 1) (j := -1) (by omega) (by rw [List.length_map, C.rws.len]; omega) (by decide) (by decide)
        have e1 : ((((rows.map V.ref).length : Nat) : Int) - 1 - -1).toNat = Ps.length := by
          rw [List.length_map, C.rws.len]
          omega
        rw [e1] at e
        exact e
      refine for_rangeC (fun i σ H' => ∃ v4 v5 : Option V, σ = [some (.ref c), some (.ref a), some (.ref p), v, v4, v5] ∧ Same H H' ∧ H' p = some (.lst ((sw Ps (markAll starts (List.replicate Ps.length false)) Ps.length i).map V.bl)))
        ⟨none, none, rfl, s5, h5⟩ ?_ ?_
      · rintro i σ H3 hi ⟨v4, v5, rfl, s6, h6⟩
        have ec : (((rows.map V.ref).length : Nat) : Int) - 1 + ((i : Nat) : Int) * -1 = ((Ps.length - 1 - i : Nat) : Int) := by
          rw [List.length_map, C.rws.len]
          omega
        rw [ec]
        have hcl : Ps.length - 1 - i < Ps.length := by omega
        have hlen : ∀ j, (sw Ps (markAll starts (List.replicate Ps.length false)) Ps.length j).length = Ps.length := fun j => by
          rw [sw_length, markAll_length, List.length_replicate]
        refine ⟨_, rfl, _, rfl, p, _, _, _, rfl, rfl, SqL.of h6, atI_nat (bls_at (by rw [hlen]; exact hcl)), _, rfl, ?_⟩
        refine ite2 (fun hb => ?_) (fun hb => ?_)
        · have C3 := C.same s6
          obtain ⟨dc3, ho3⟩ := C3.obj
          obtain ⟨r, hr1, hr2⟩ := C3.rws.row hcl
          refine ⟨_, rfl, c, CC, dc3, _, _, rfl, ho3, T.cC, T.nP, look1 _ _, _, rfl, l, _, _, _, rfl, rfl, SqL.of C3.lst, atI_nat (refs_at hr1), r, rfl, ⟨_, SqL.of hr2⟩,
            for_list (K := K) (a := r) (xs := nvs (Ps.getD (Ps.length - 1 - i) [])) (fun j σ H' => ∃ v5 : Option V, σ = [some (.ref c), some (.ref a), some (.ref p), v, some (nv (Ps.length - 1 - i)), v5] ∧ Same H H' ∧ H' r = some (.lst (nvs (Ps.getD (Ps.length - 1 - i) []))) ∧
              H' p = some (.lst ((markAll ((Ps.getD (Ps.length - 1 - i) []).take j) (sw Ps (markAll starts (List.replicate Ps.length false)) Ps.length i)).map V.bl)))
            ⟨v5, rfl, s6, hr2, h6⟩ (fun j σ H' _ ⟨_, _, _, z, _⟩ => SqL.of z) ?_ ?_⟩
          · rintro j y σ H' hj ⟨v5', rfl, s7, hr7, h7⟩
            obtain ⟨x, hx, rfl⟩ := nvs_at hj
            have hxl := lw _ _ (List.mem_of_getElem? hx)
            have hrp : r ≠ p := by
              obtain ⟨r0, hr01, hr02⟩ := C.rws.row hcl
              have er : r0 = r := Option.some.inj (hr01.symm.trans hr1)
              subst er
              exact ne_of_none hr02 hp0
            refine ⟨_, rfl, _, rfl, p, _, _, x, rfl, rfl, h7, ixN_nat (by rw [List.length_map, markAll_length, hlen]; omega), _, rfl, same_write hp0 s7, by rw [upd_ne hrp]; exact hr7, ?_⟩
            rw [upd_same, bls_set, mark_snoc hx]
          · rintro σ H4 ⟨v5', rfl, s7, _, h7⟩
            rw [nvs_len, List.take_length] at h7
            refine ⟨_, _, rfl, s7, ?_⟩
            rw [h7, sw, turn, if_pos hb]
        · refine ⟨_, _, rfl, s6, ?_⟩
          rw [h6, sw, turn, if_neg hb]
      · rintro σ H3 ⟨v4, v5, rfl, s6, h6⟩
        refine ⟨_, rfl, ?_⟩
        exact k H3 p s6 hp0 h6
end
end Pr
end
section
set_option Elab.async false
set_option linter.all false
set_option maxRecDepth 100000
set_option maxHeartbeats 4000000
namespace Pr
open PySem PySem.Spec PyProof.Rows L2 Mb Mm
abbrev cReaching : Stmt := inClass (top 1) 5
abbrev cComes : Stmt := inClass (top 1) 6
abbrev cFewest : Stmt := inClass (top 1) 7
abbrev cFalling : Stmt := inClass (top 1) 11
/-! ### mathematics: who comes from a -/
def rc (ps : List (List Nat)) (a : Nat) : Nat → List Bool
  | 0 => (List.replicate ps.length false).set a true
  | i + 1 => (rc ps a i).set (a + 1 + i) ((ps.getD (a + 1 + i) []).any fun p => (rc ps a i).getD p false)
theorem rc_length (ps : List (List Nat)) (a : Nat) : ∀ i, (rc ps a i).length = ps.length
  | 0 => by rw [rc, List.length_set, List.length_replicate]
  | i + 1 => by rw [rc, List.length_set, rc_length ps a i]
theorem rc_iff {ps : List (List Nat)} (lw : Low ps) {a : Nat} (ha : a < ps.length) : ∀ i, a + 1 + i ≤ ps.length → ∀ b, b < a + 1 + i → ((rc ps a i).getD b false = true ↔ Anc ps b a)
  | 0, _, b, hb => by
    rw [rc, getD_set_true _ _ _ (by rw [List.length_replicate]; exact ha)]
    constructor
    · rintro (h | rfl)
      · rw [List.getD_eq_getElem?_getD, List.getElem?_replicate] at h
        split at h <;> simp at h
      · exact .refl _
    · intro h
      have := h.le lw
      exact .inr (by omega)
  | i + 1, hi, b, hb => by
    have ih := rc_iff lw ha i (by omega)
    have hl := rc_length ps a i
    rw [rc]
    by_cases e : b = a + 1 + i
    · subst e
      have e1 : ((rc ps a i).set (a + 1 + i) ((ps.getD (a + 1 + i) []).any fun p => (rc ps a i).getD p false)).getD (a + 1 + i) false = (ps.getD (a + 1 + i) []).any fun p => (rc ps a i).getD p false := by
        rw [List.getD_eq_getElem?_getD, List.getElem?_set_self (by omega)]
        rfl
      rw [e1, List.any_eq_true]
      constructor
      · rintro ⟨p, h1, h2⟩
        have hp := lw _ _ h1
        exact ((anc_ne lw).mpr ⟨p, h1, (ih p (by omega)).mp h2⟩).2
      · intro h
        obtain ⟨p, h1, h2⟩ := (anc_ne lw).mp ⟨by omega, h⟩
        have hp := lw _ _ h1
        exact ⟨p, h1, (ih p (by omega)).mpr h2⟩
    · have e1 : ((rc ps a i).set (a + 1 + i) ((ps.getD (a + 1 + i) []).any fun p => (rc ps a i).getD p false)).getD b false = (rc ps a i).getD b false := by
        rw [List.getD_eq_getElem?_getD, List.getElem?_set_ne (Ne.symm e), List.getD_eq_getElem?_getD]
      rw [e1]
      exact ih b (by omega)
/-! ### promises -/
def spReaching (CC : Addr) : Sp := fun vs H Q _ => ∃ (c : Addr) (P : List (List Nat)) (a : Nat), vs = [.ref c, nv a] ∧ CAt CC H c P ∧ a < P.length ∧ Gd P ∧
  ∀ (H' : Hp) (p : Addr) (bs : List Bool), Same H H' → H p = none → H' p = some (.lst (bs.map V.bl)) → bs.length = P.length → (∀ b, b < P.length → (bs.getD b false = true ↔ Anc P b a)) → Q (.ref p) H'
def spComes (CC : Addr) : Sp := fun vs H Q _ => ∃ (c : Addr) (P : List (List Nat)) (a b : Nat), vs = [.ref c, nv a, nv b] ∧ CAt CC H c P ∧ a < P.length ∧ b < P.length ∧ Gd P ∧
  ∀ (H' : Hp), Same H H' → Q (.bl ((reached P [a]).getD b false)) H'
def spFewest (CC : Addr) : Sp := fun vs H Q _ => ∃ (c : Addr) (P : List (List Nat)) (a b : Nat), vs = [.ref c, nv a, nv b] ∧ CAt CC H c P ∧ a < P.length ∧ b < P.length ∧ Gd P ∧
  ∀ (H' : Hp), Same H H' → Q (ov ((fs P a (a - b)).getD b none)) H'
def spFalling (CC : Addr) : Sp := fun vs H Q _ => ∃ (c : Addr) (P : List (List Nat)), vs = [.ref c] ∧ CAt CC H c P ∧ Gd P ∧
  ∀ (H' : Hp) (p : Addr), Same H H' → H p = none → H' p = some (.lst (nvs (List.range P.length).reverse)) → Q (.ref p) H'
theorem filterMap_some {α β γ : Type} (g : α → β) (f : β → Option γ) (h : α → γ) : ∀ (l : List α), (∀ x ∈ l, f (g x) = some (h x)) → (l.map g).filterMap f = l.map h
  | [], _ => rfl
  | x :: r, q => by
    rw [List.map_cons, List.filterMap_cons, q x List.mem_cons_self, List.map_cons, filterMap_some g f h r fun y hy => q y (List.mem_cons_of_mem _ hy)]
theorem filterMap_if {α β γ : Type} (g : α → β) (f : β → Option γ) (h : α → γ) (c : α → Bool) : ∀ (l : List α), (∀ x ∈ l, f (g x) = if c x = true then some (h x) else none) → (l.map g).filterMap f = (l.filter c).map h
  | [], _ => rfl
  | x :: r, q => by
    have q1 := q x List.mem_cons_self
    have ih := filterMap_if g f h c r fun y hy => q y (List.mem_cons_of_mem _ hy)
    rw [List.map_cons, List.filterMap_cons, q1]
    by_cases e : c x = true
    · rw [if_pos e, List.filter_cons_of_pos e, List.map_cons, ih]
    · rw [if_neg e, List.filter_cons_of_neg e, ih]
section
variable {P : Program} {w : World} {K : PySem.W.Frag} {mg : Str → Option Value} {base : Heap} {CC CM CR CH f : Addr} {fd : FuncData}
theorem scReaching : FnScope ["self", "ancestor", "found", "commit", "parent"] ["self", "ancestor"] (defScope cReaching) := ⟨rfl, rfl, rfl, by decide +kernel, rfl, by decide +kernel, by decide +kernel⟩
theorem bkReaching : BlkOk ["self", "ancestor", "found", "commit", "parent"] (defScope cReaching) { kind := .function, names := [(".0", .local), ("parent", .local), ("found", .free)], isGenerator := false, isCoroutine := false } [("parent", 4)] := blkOk_by (by decide +kernel)
theorem ok_reaching (F : Fun K "reaching" "Commits.reaching" cReaching f fd) (T : Txt K mg CC CM CR CH) : FnOk P w K mg base CX0 1 f fd ["self", "ancestor"] (spReaching CC) := by
  refine F.ok scReaching (fun vs H Q E h => ?_) (fun cdv A outer s H vs Q E hr h => ?_)
  · obtain ⟨c, Ps, a, rfl, _⟩ := h
    rfl
  · obtain ⟨c, Ps, a, rfl, ⟨l, rows, C⟩, ha, G, k⟩ := h
    have lw := G.low
    have h128 := G.few
    obtain ⟨dc, ho⟩ := C.obj
    have nd := scReaching.nd
    refine ⟨_, pss_cons (ps_set (i := 2) nd rfl (Or.inr rfl) (pe_op op_rep (pe_lst (pa_cons pe_bl pa_nil)) (pe_callB call_len_seq (by rfl) T.len bt_len (pa_cons (pe_fld (pv 0) rfl) pa_nil))))
      (pss_cons (ps_asg pe_bl (pg_sub (pv 2) (pv 1) set_list))
      (pss_cons (ps_for PassesOwn.never rfl (pi_range2 rfl T.range (pa_cons (pe_op op_add (pv 1) pe_int) (pa_cons (pe_callB call_len_seq (by rfl) T.len bt_len (pa_cons (pe_fld (pv 0) rfl) pa_nil)) pa_nil))) (pg_name (i := 3) nd rfl (Or.inl rfl))
        (pss_one (ps_asg (pe_callB (cr_any rfl) (by rfl) T.any bt_any (pa_cons (pe_lc rfl nd (pi_list (pe_ix ix_list (pe_fld (pv 0) rfl) (pv 3) (fun _ _ => rfl))) bkReaching
            (fun _ _ _ _ _ => pg_name (i := 4) nd rfl (Or.inl rfl)) (fun _ _ _ _ _ => pts_nil) (fun _ _ _ _ _ => pe_ix (ixK (K := K)) (pv 2) (pv 4) (fun _ _ => rfl))) pa_nil)) (pg_sub (pv 2) (pv 3) set_list))))
      (pss_one (ps_ret (pv 2))))), ?_⟩
    refine ⟨(by show 1 ≤ sizeLine; decide), fun q hq => ?_⟩
    have s1 : Same H (upd H q (.lst [.bl false])) := same_new hq
    have C1 := C.same s1
    obtain ⟨dc1, ho1⟩ := C1.obj
    refine ⟨_, rfl, c, CC, dc1, _, _, rfl, ho1, T.cC, T.nP, look1 _ _, l, _, rfl, .inl (SqL.of C1.lst), ?_⟩
    rw [List.length_map, C.rws.len]
    refine ⟨q, _, _, rfl, rfl, upd_same, by omega, by omega, by simp [sizeLine_eq]; omega, fun p hp => ?_⟩
    have hp0 : H p = none := s1.free hp
    have e0 : (List.replicate (Ps.length : Int).toNat [V.bl false]).flatten = (List.replicate Ps.length false).map V.bl := by
      rw [rep_flat, List.map_replicate]
      rfl
    rw [e0]
    have s2 : Same H (upd (upd H q (.lst [.bl false])) p (.lst ((List.replicate Ps.length false).map V.bl))) := same_write hp0 s1
    -- found[ancestor] = True
    refine ⟨_, rfl, _, rfl, p, _, _, a, rfl, rfl, upd_same, ixN_nat (by rw [List.length_map, List.length_replicate]; exact ha), ?_⟩
    rw [upd_upd, bls_set]
    have s3 : Same H (upd (upd H q (.lst [.bl false])) p (.lst ((rc Ps a 0).map V.bl))) := same_write hp0 s1
    have C3 := C.same s3
    obtain ⟨dc3, ho3⟩ := C3.obj
    refine ⟨_, rfl, _, _, rfl, rfl, _, rfl, c, CC, dc3, _, _, rfl, ho3, T.cC, T.nP, look1 _ _, l, _, rfl, .inl (SqL.of C3.lst), _, _, rfl, ⟨by omega, by omega, by omega, by rw [List.length_map, C.rws.len]; omega⟩, ?_⟩
    have en : ((((rows.map V.ref).length : Nat) : Int) - ((a : Int) + 1)).toNat = Ps.length - (a + 1) := by
      rw [List.length_map, C.rws.len]
      omega
    rw [en]
    refine for_range (fun i σ H' => ∃ v3 : Option V, σ = [some (.ref c), some (nv a), some (.ref p), v3, none] ∧ Same H H' ∧ H' p = some (.lst ((rc Ps a i).map V.bl))) ⟨none, rfl, s3, upd_same⟩ ?_ ?_
    · rintro i σ H4 hi ⟨v3, rfl, s4, h4⟩
      have ec : (a : Int) + 1 + (i : Nat) = ((a + 1 + i : Nat) : Int) := by omega
      rw [ec]
      have hcl : a + 1 + i < Ps.length := by omega
      have C4 := C.same s4
      obtain ⟨dc4, ho4⟩ := C4.obj
      obtain ⟨r, hr1, hr2⟩ := C4.rws.row hcl
      refine ⟨_, rfl, c, CC, dc4, _, _, rfl, ho4, T.cC, T.nP, look1 _ _, _, rfl, l, _, _, _, rfl, rfl, SqL.of C4.lst, atI_nat (refs_at hr1), r, rfl, ⟨_, SqL.of hr2⟩, fun D hD => ?_⟩
      have pD : p ≠ D := ne_of_none h4 hD
      refine lc_go (fun v => match v with | .int z => some (.bl ((rc Ps a i).getD z.toNat false)) | _ => none) (SqL.of hr2) hD (by rw [nvs_len, sizeLine_eq]; have := G.len (a + 1 + i); omega) (fun x acc hx => ?_) ?_
      · obtain ⟨z, hz, rfl⟩ := List.mem_map.mp hx
        have hzl := lw _ _ hz
        refine ⟨true, fun R r => r, ?_⟩
        rw [if_pos rfl]
        refine ⟨.bl ((rc Ps a i).getD z false), rfl, fun R r => ?_⟩
        refine ⟨_, rfl, _, rfl, p, _, _, _, rfl, rfl, SqL.of (by rw [upd_ne pD]; exact h4), atI_nat (bls_at (by rw [rc_length]; omega)), r⟩
      · have e1 : (nvs (Ps.getD (a + 1 + i) [])).filterMap (fun v => match v with | .int z => some (V.bl ((rc Ps a i).getD z.toNat false)) | _ => none) = ((Ps.getD (a + 1 + i) []).map fun z => (rc Ps a i).getD z false).map V.bl := by
          rw [List.map_map]
          exact filterMap_some _ _ _ _ fun x _ => rfl
        rw [e1]
        refine ⟨D, _, rfl, SqL.of upd_same, ?_⟩
        refine ⟨_, rfl, _, rfl, p, _, _, a + 1 + i, rfl, rfl, by rw [upd_ne pD]; exact h4, ixN_nat (by rw [List.length_map, rc_length]; exact hcl), ?_⟩
        refine ⟨_, rfl, same_write hp0 (s4.trans (same_new hD)), ?_⟩
        rw [upd_same, rc, List.map_set, List.any_map]
        rfl
    · rintro σ H4 ⟨v3, rfl, s4, h4⟩
      refine ⟨_, rfl, ?_⟩
      refine k H4 p _ s4 hp0 h4 (rc_length ..) fun b hb => ?_
      exact rc_iff lw ha _ (by omega) b (by omega)
end
end Pr
end
section
set_option Elab.async false
set_option linter.all false
set_option maxRecDepth 100000
set_option maxHeartbeats 4000000
namespace Pr
open PySem PySem.Spec PyProof.Rows L2 Mb Mm
theorem falling_eq (n : Nat) (z : Int) (hz : z = (n : Int) - 1) : ((List.range n).map fun k => V.int (z + ((k : Nat) : Int) * -1)) = nvs (List.range n).reverse := by
  subst hz
  show _ = (List.range n).reverse.map nv
  refine List.ext_getElem (by simp) fun i h1 h2 => ?_
  rw [List.getElem_map, List.getElem_map, List.getElem_range, List.getElem_reverse, List.getElem_range, List.length_range]
  rw [List.length_map, List.length_range] at h1
  show V.int _ = V.int _
  congr 1
  omega
theorem ovs_at {l : List (Option Nat)} {j : Nat} (h : j < l.length) : (l.map ov)[j]? = some (ov (l.getD j none)) := by
  rw [List.getElem?_map, List.getElem?_eq_getElem h, List.getD_eq_getElem?_getD, List.getElem?_eq_getElem h]
  rfl
theorem frow_snoc {n : Nat} {row : List Nat} {u : List (Option Nat)} {i x : Nat} (h : row[i]? = some x) : (frow n (row.take i) u).set x (lesser ((frow n (row.take i) u).getD x none) (n + 1)) = frow n (row.take (i + 1)) u := by
  rw [take_snoc h]
  unfold frow
  rw [List.foldl_append]
  rfl
theorem set_getD {l : List (Option Nat)} {x : Nat} (h : x < l.length) : l.set x (l.getD x none) = l := by
  rw [List.getD_eq_getElem?_getD, List.getElem?_eq_getElem h]
  exact List.set_getElem_self h
theorem gtv {m n : Nat} : decide ((n : Int) + 1 < (m : Int)) = decide (n + 1 < m) := by
  by_cases h : n + 1 < m
  · rw [decide_eq_true h, decide_eq_true (by omega)]
  · rw [decide_eq_false h, decide_eq_false (by omega)]
section
variable {P : Program} {w : World} {K : PySem.W.Frag} {mg : Str → Option Value} {base : Heap} {CC CM CR CH f : Addr} {fd : FuncData}
theorem scComes : FnScope ["self", "commit", "ancestor"] ["self", "commit", "ancestor"] (defScope cComes) := ⟨rfl, rfl, rfl, by decide +kernel, rfl, by decide +kernel, by decide +kernel⟩
theorem ok_comes (F : Fun K "comes_from" "Commits.comes_from" cComes f fd) (T : Txt K mg CC CM CR CH) (MR : Mt P w K mg base CC 1 "reached" ["self", "starts"] (spReached CC K)) : FnOk P w K mg base CX0 2 f fd ["self", "commit", "ancestor"] (spComes CC) := by
  refine F.ok scComes (fun vs H Q E h => ?_) (fun cdv A outer s H vs Q E hr h => ?_)
  · obtain ⟨c, Ps, a, b, rfl, _⟩ := h
    rfl
  · obtain ⟨c, Ps, a, b, rfl, ⟨l, rows, C⟩, ha, hb, G, k⟩ := h
    obtain ⟨dc, ho⟩ := C.obj
    refine ⟨_, pss_one (ps_ret (pe_ix ix_list (pe_mt MR T.cC hr (pv 0) (pa_cons (pe_lst (pa_cons (pv 1) pa_nil)) pa_nil)) (pv 2) (fun _ _ => rfl))), ?_⟩
    refine ⟨_, rfl, c, dc, _, rfl, ho, look1_no _ (by decide +kernel), _, rfl, (by show 1 ≤ sizeLine; decide), fun q hq => ?_⟩
    refine ⟨c, q, Ps, [a], rfl, ⟨l, rows, C.same (same_new hq)⟩, SqL.of upd_same, by simpa using ha, G.few, G.low, fun H' p s1 hp h1 => ?_⟩
    refine ⟨_, rfl, p, _, _, _, rfl, rfl, SqL.of h1, atI_nat (bls_at (by rw [reached_length]; exact hb)), ?_⟩
    exact k H' ((same_new hq).trans s1)
theorem scFalling : FnScope ["self"] ["self"] (defScope cFalling) := ⟨rfl, rfl, rfl, by decide +kernel, rfl, by decide +kernel, by decide +kernel⟩
theorem ok_falling (F : Fun K "falling" "Commits.falling" cFalling f fd) (T : Txt K mg CC CM CR CH) : FnOk P w K mg base CX0 1 f fd ["self"] (spFalling CC) := by
  refine F.ok scFalling (fun vs H Q E h => ?_) (fun cdv A outer s H vs Q E hr h => ?_)
  · obtain ⟨c, Ps, rfl, _⟩ := h
    rfl
  · obtain ⟨c, Ps, rfl, ⟨l, rows, C⟩, G, k⟩ := h
    obtain ⟨dc, ho⟩ := C.obj
    have h128 := G.few
    refine ⟨_, pss_one (ps_ret (pe_callTy (call_listR rfl) (by rfl) T.list bt_list (pa_cons (pe_callTy call_range3 (by rfl) T.range bt_range
      (pa_cons (pe_op op_sub (pe_callB call_len_seq (by rfl) T.len bt_len (pa_cons (pe_fld (pv 0) rfl) pa_nil)) pe_int) (pa_cons (pe_un un_neg pe_int) (pa_cons (pe_un un_neg pe_int) pa_nil)))) pa_nil))), ?_⟩
    refine ⟨_, rfl, c, CC, dc, _, _, rfl, ho, T.cC, T.nP, look1 _ _, l, _, rfl, .inl (SqL.of C.lst), _, _, rfl, rfl, _, rfl, _, rfl, _, _, _, rfl, by decide, by decide, fun q hq => ?_⟩
    refine ⟨q, _, _, _, Ps.length, rfl, upd_same, ?_, by omega, fun p hp => ?_⟩
    · have e := RgC.neg (i := ((rows.map V.ref).length : Int) - 1) (j := -1) (by omega) (by rw [List.length_map, C.rws.len]; omega) (by decide) (by decide)
      have e1 : ((((rows.map V.ref).length : Nat) : Int) - 1 - -1).toNat = Ps.length := by
        rw [List.length_map, C.rws.len]
        omega
      rw [e1] at e
      exact e
    · have s1 : Same H (upd H q (.ext (RngAt q (((rows.map V.ref).length : Int) - 1) (-1) (-1)))) := same_new hq
      refine k _ p (s1.trans (same_new hp)) (s1.free hp) ?_
      rw [upd_same]
      exact congrArg (fun z => some (HO.lst z)) (falling_eq Ps.length (((rows.map V.ref).length : Int) - 1) (by rw [List.length_map, C.rws.len]))
theorem scFewest : FnScope ["self", "start", "goal", "fewest", "commit", "parent"] ["self", "start", "goal"] (defScope cFewest) := ⟨rfl, rfl, rfl, by decide +kernel, rfl, by decide +kernel, by decide +kernel⟩
theorem ok_fewest (F : Fun K "fewest_steps" "Commits.fewest_steps" cFewest f fd) (T : Txt K mg CC CM CR CH) : FnOk P w K mg base CX0 1 f fd ["self", "start", "goal"] (spFewest CC) := by
  refine F.ok scFewest (fun vs H Q E h => ?_) (fun cdv A outer s H vs Q E hr h => ?_)
  · obtain ⟨c, Ps, a, b, rfl, _⟩ := h
    rfl
  · obtain ⟨c, Ps, a, b, rfl, ⟨l, rows, C⟩, ha, hb, G, k⟩ := h
    obtain ⟨dc, ho⟩ := C.obj
    have h128 := G.few
    have lw := G.low
    have nd := scFewest.nd
    refine ⟨_, pss_cons (ps_set (i := 3) nd rfl (Or.inl rfl) (pe_op op_rep (pe_lst (pa_cons pe_non pa_nil)) (pe_callB call_len_seq (by rfl) T.len bt_len (pa_cons (pe_fld (pv 0) rfl) pa_nil))))
      (pss_cons (ps_asg pe_int (pg_sub (pv 3) (pv 1) set_list))
      (pss_cons (ps_for PassesOwn.never rfl (pi_range3 rfl T.range (pa_cons (pv 1) (pa_cons (pv 2) (pa_cons (pe_un un_neg pe_int) pa_nil)))) (pg_name (i := 4) nd rfl (Or.inl rfl))
        (pss_one (ps_if (pt_cmp (pc_notN (pe_ix ix_list (pv 3) (pv 4) (fun _ _ => rfl))))
          (pss_one (ps_for PassesOwn.never rfl (pi_list (pe_ix ix_list (pe_fld (pv 0) rfl) (pv 4) (fun _ _ => rfl))) (pg_name (i := 5) nd rfl (Or.inl rfl))
            (pss_one (ps_if (PW.pt (pw_or (pt_cmp (pc_isN (pe_ix ix_list (pv 3) (pv 5) (fun _ _ => rfl)))) (pw_or1 (pt_cmpR op_gt (pe_ix ix_list (pv 3) (pv 5) (fun _ _ => rfl)) (pe_op op_add (pe_ix ix_list (pv 3) (pv 4) (fun _ _ => rfl)) pe_int) (nomark _)))))
              (pss_one (ps_asg (pe_op op_add (pe_ix ix_list (pv 3) (pv 4) (fun _ _ => rfl)) pe_int) (pg_sub (pv 3) (pv 5) set_list))) pss_nil)))) pss_nil)))
      (pss_one (ps_ret (pe_ix ix_list (pv 3) (pv 2) (fun _ _ => rfl)))))), ?_⟩
    refine ⟨(by show 1 ≤ sizeLine; decide), fun q hq => ?_⟩
    have s1 : Same H (upd H q (.lst [.non])) := same_new hq
    have C1 := C.same s1
    obtain ⟨dc1, ho1⟩ := C1.obj
    refine ⟨_, rfl, c, CC, dc1, _, _, rfl, ho1, T.cC, T.nP, look1 _ _, l, _, rfl, .inl (SqL.of C1.lst), ?_⟩
    rw [List.length_map, C.rws.len]
    refine ⟨q, _, _, rfl, rfl, upd_same, by omega, by omega, by simp [sizeLine_eq]; omega, fun p hp => ?_⟩
    have hp0 : H p = none := s1.free hp
    have e0 : (List.replicate (Ps.length : Int).toNat [V.non]).flatten = (List.replicate Ps.length none).map ov := by
      rw [rep_flat, List.map_replicate]
      rfl
    rw [e0]
    refine ⟨_, rfl, _, rfl, p, _, _, a, rfl, rfl, upd_same, ixN_nat (by rw [List.length_map, List.length_replicate]; exact ha), ?_⟩
    have e00 : ((List.replicate Ps.length none).map ov).set a (V.int 0) = (fs Ps a 0).map ov := by
      rw [fs, List.map_set]
      rfl
    rw [upd_upd, e00]
    have s3 : Same H (upd (upd H q (.lst [.non])) p (.lst ((fs Ps a 0).map ov))) := same_write hp0 s1
    refine ⟨_, rfl, _, rfl, _, rfl, _, _, _, a - b, rfl, ?_, ?_⟩
    · have e := RgC.neg (i := (a : Int)) (j := (b : Int)) (by omega) (by omega) (by omega) (by omega)
      have e1 : ((a : Int) - (b : Int)).toNat = a - b := by omega
      rw [e1] at e
      exact e
    refine for_rangeC (fun i σ H' => ∃ v4 v5 : Option V, σ = [some (.ref c), some (nv a), some (nv b), some (.ref p), v4, v5] ∧ Same H H' ∧ H' p = some (.lst ((fs Ps a i).map ov))) ⟨none, none, rfl, s3, upd_same⟩ ?_ ?_
    · rintro i σ H3 hi ⟨v4, v5, rfl, s6, h6⟩
      have ec : (a : Int) + ((i : Nat) : Int) * -1 = ((a - i : Nat) : Int) := by omega
      rw [ec]
      have hcl : a - i < Ps.length := by omega
      have hfl : ∀ j, (fs Ps a j).length = Ps.length := fun j => fs_length a j
      refine ⟨_, rfl, _, rfl, p, _, _, _, rfl, rfl, SqL.of h6, atI_nat (ovs_at (by rw [hfl]; exact hcl)), _, rfl, ?_⟩
      cases e : (fs Ps a i).getD (a - i) none with
      | none =>
        refine iteF ⟨_, _, rfl, s6, ?_⟩
        rw [h6, fs, fturn, e]
      | some n =>
        refine iteT ?_
        have C3 := C.same s6
        obtain ⟨dc3, ho3⟩ := C3.obj
        obtain ⟨r, hr1, hr2⟩ := C3.rws.row hcl
        have hrp : r ≠ p := by
          obtain ⟨r0, hr01, hr02⟩ := C.rws.row hcl
          have er : r0 = r := Option.some.inj (hr01.symm.trans hr1)
          subst er
          exact ne_of_none hr02 hp0
        have hno : ∀ j, (frow n ((Ps.getD (a - i) []).take j) (fs Ps a i)).getD (a - i) none = some n := fun j => by
          rw [frow_out n _ _ _ (fun m => absurd (lw _ _ (List.mem_of_mem_take m)) (Nat.lt_irrefl _)), e]
        have hfr : ∀ j, (frow n ((Ps.getD (a - i) []).take j) (fs Ps a i)).length = Ps.length := fun j => by rw [frow_length, hfl]
        refine ⟨_, rfl, c, CC, dc3, _, _, rfl, ho3, T.cC, T.nP, look1 _ _, _, rfl, l, _, _, _, rfl, rfl, SqL.of C3.lst, atI_nat (refs_at hr1), r, rfl, ⟨_, SqL.of hr2⟩,
          for_list (K := K) (a := r) (xs := nvs (Ps.getD (a - i) [])) (fun j σ H' => ∃ v5 : Option V, σ = [some (.ref c), some (nv a), some (nv b), some (.ref p), some (nv (a - i)), v5] ∧ Same H H' ∧ H' r = some (.lst (nvs (Ps.getD (a - i) []))) ∧
            H' p = some (.lst ((frow n ((Ps.getD (a - i) []).take j) (fs Ps a i)).map ov)))
          ⟨v5, rfl, s6, hr2, h6⟩ (fun j σ H' _ ⟨_, _, _, z, _⟩ => SqL.of z) ?_ ?_⟩
        · rintro j y σ H' hj ⟨v5', rfl, s7, hr7, h7⟩
          obtain ⟨x, hx, rfl⟩ := nvs_at hj
          have hxl := lw _ _ (List.mem_of_getElem? hx)
          have hxp : x < (frow n ((Ps.getD (a - i) []).take j) (fs Ps a i)).length := by rw [hfr]; omega
          have fin : ∀ (z : Option Nat), z = lesser ((frow n ((Ps.getD (a - i) []).take j) (fs Ps a i)).getD x none) (n + 1) → ((frow n ((Ps.getD (a - i) []).take j) (fs Ps a i)).set x z) = frow n ((Ps.getD (a - i) []).take (j + 1)) (fs Ps a i) := fun z ez => by
            rw [ez]
            exact frow_snoc hx
          have cval : (((frow n ((Ps.getD (a - i) []).take j) (fs Ps a i)).map ov))[a - i]? = some (nv n) := by
            rw [ovs_at (by rw [hfr]; exact hcl), hno]
            rfl
          -- the store
          have sto : ∀ m : Nat, some (n + 1) = lesser ((frow n ((Ps.getD (a - i) []).take j) (fs Ps a i)).getD x none) (n + 1) →
              Same H (upd H' p (.lst (((frow n ((Ps.getD (a - i) []).take j) (fs Ps a i)).map ov).set x (V.int ((n : Int) + 1))))) ∧ (upd H' p (.lst (((frow n ((Ps.getD (a - i) []).take j) (fs Ps a i)).map ov).set x (V.int ((n : Int) + 1))))) p = some (.lst ((frow n ((Ps.getD (a - i) []).take (j + 1)) (fs Ps a i)).map ov)) := fun _ ez => by
            refine ⟨same_write hp0 s7, ?_⟩
            rw [upd_same, ← fin _ ez, List.map_set]
            rfl
          refine ⟨_, rfl, _, rfl, p, _, _, _, rfl, rfl, SqL.of h7, atI_nat (ovs_at hxp), _, rfl, ?_⟩
          cases ex : (frow n ((Ps.getD (a - i) []).take j) (fs Ps a i)).getD x none with
          | none =>
            rw [ex] at sto
            obtain ⟨q1, q2⟩ := sto 0 rfl
            refine iteT (iteT ?_)
            refine ⟨_, rfl, _, rfl, p, _, _, _, rfl, rfl, SqL.of h7, atI_nat cval, _, _, rfl, rfl, _, rfl, _, rfl, p, _, _, x, rfl, rfl, h7, ixN_nat (by rw [List.length_map]; exact hxp), ?_⟩
            exact ⟨_, rfl, q1, by rw [upd_ne hrp]; exact hr7, q2⟩
          | some m =>
            refine iteF ?_
            have xval : (((frow n ((Ps.getD (a - i) []).take j) (fs Ps a i)).map ov))[x]? = some (nv m) := by
              rw [ovs_at hxp, ex]
              rfl
            refine ⟨_, rfl, _, rfl, p, _, _, _, rfl, rfl, SqL.of h7, atI_nat xval, _, rfl, _, rfl, p, _, _, _, rfl, rfl, SqL.of h7, atI_nat cval, _, _, rfl, rfl, _, _, rfl, rfl, _, rfl, ?_⟩
            rw [gtv]
            refine ite2 (fun hlt => ?_) (fun hlt => ?_)
            · have hlt : n + 1 < m := of_decide_eq_true hlt
              rw [ex] at sto
              obtain ⟨q1, q2⟩ := sto 0 (by show some (n + 1) = some (min m (n + 1)); rw [Nat.min_eq_right (by omega)])
              refine ⟨_, rfl, _, rfl, p, _, _, _, rfl, rfl, SqL.of h7, atI_nat cval, _, _, rfl, rfl, _, rfl, _, rfl, p, _, _, x, rfl, rfl, h7, ixN_nat (by rw [List.length_map]; exact hxp), ?_⟩
              exact ⟨_, rfl, q1, by rw [upd_ne hrp]; exact hr7, q2⟩
            · have hge : ¬ n + 1 < m := fun z => hlt (decide_eq_true z)
              refine ⟨_, rfl, s7, hr7, ?_⟩
              rw [h7, ← fin (some m) (by rw [ex]; show some m = some (min m (n + 1)); rw [Nat.min_eq_left (by omega)]), ← ex, set_getD hxp]
        · rintro σ H4 ⟨v5', rfl, s7, _, h7⟩
          rw [nvs_len, List.take_length] at h7
          refine ⟨_, _, rfl, s7, ?_⟩
          rw [h7, fs, fturn, e]
    · rintro σ H3 ⟨v4, v5, rfl, s6, h6⟩
      refine ⟨_, rfl, _, rfl, p, _, _, _, rfl, rfl, SqL.of h6, atI_nat (ovs_at (by rw [fs_length]; exact hb)), ?_⟩
      exact k H3 s6
end
end Pr
end
section
set_option Elab.async false
set_option linter.all false
set_option maxRecDepth 100000
set_option maxHeartbeats 4000000
namespace Pr
open PySem PySem.Spec PyProof.Rows L2 Mb Mm
abbrev cCommon : Stmt := inClass (top 1) 8
abbrev cHeads : Stmt := inClass (top 1) 9
abbrev cBest : Stmt := inClass (top 1) 10
/-! ### promises -/
def spCommon (CC : Addr) (K : PySem.W.Frag) : Sp := fun vs H Q _ => ∃ (c m : Addr) (s : Hist) (as : List Nat), vs = [.ref c, .ref m] ∧ CAt CC H c s.parents ∧ Wf s ∧ SqL K H m (nvs as) ∧ (∀ a ∈ as, a < s.size) ∧
  ∀ (H' : Hp) (p : Addr), Same H H' → H p = none → H' p = some (.lst (nvs (commonOf s as))) → Q (.ref p) H'
def spHeads (CC : Addr) (K : PySem.W.Frag) : Sp := fun vs H Q _ => ∃ (c m : Addr) (s : Hist) (as : List Nat), vs = [.ref c, .ref m] ∧ CAt CC H c s.parents ∧ Wf s ∧ SqL K H m (nvs as) ∧ (∀ a ∈ as, a < s.size) ∧ as.length ≤ 128 ∧
  ∀ (H' : Hp) (p : Addr), Same H H' → H p = none → H' p = some (.lst (nvs (heads s as))) → Q (.ref p) H'
def spBest (CC : Addr) (K : PySem.W.Frag) : Sp := fun vs H Q _ => ∃ (c m : Addr) (s : Hist) (as : List Nat), vs = [.ref c, .ref m] ∧ CAt CC H c s.parents ∧ Wf s ∧ SqL K H m (nvs as) ∧ (∀ a ∈ as, a < s.size) ∧
  ∀ (H' : Hp) (p : Addr), Same H H' → H p = none → H' p = some (.lst (nvs (best s as))) → Q (.ref p) H'
theorem flat_len {P : List (List Nat)} (G : Gd P) : ∀ as : List Nat, (as.flatMap fun a => P.getD a []).length ≤ 8 * as.length
  | [] => Nat.zero_le _
  | a :: as => by
    rw [List.flatMap_cons, List.length_append, List.length_cons]
    have h1 := G.len a
    have h2 := flat_len G as
    omega
theorem toNats_nvs {ms : List Int} (h : ∀ k ∈ ms, 0 ≤ k) : ms.map V.int = nvs (ms.map Int.toNat) := by
  unfold nvs
  rw [List.map_map]
  refine List.map_congr_left fun k hk => ?_
  show V.int k = V.int ((k.toNat : Nat) : Int)
  rw [Int.toNat_of_nonneg (h k hk)]
theorem toNats_sorted : ∀ {ms : List Int}, (∀ k ∈ ms, 0 ≤ k) → ms.Pairwise (· < ·) → (ms.map Int.toNat).Pairwise (· < ·)
  | [], _, _ => .nil
  | a :: r, h, p => by
    rw [List.pairwise_cons] at p
    rw [List.map_cons]
    refine List.pairwise_cons.mpr ⟨fun b hb => ?_, toNats_sorted (fun k hk => h k (List.mem_cons_of_mem _ hk)) p.2⟩
    obtain ⟨k, hk, rfl⟩ := List.mem_map.mp hb
    have h1 := p.1 k hk
    have h2 := h a List.mem_cons_self
    omega
theorem pred_sorted {x : Nat} : ∀ {r : List Nat}, (∀ y ∈ r, x < y) → r.Pairwise (· < ·) → (r.map (· - 1)).Pairwise (· < ·)
  | [], _, _ => .nil
  | y :: r, h, p => by
    rw [List.pairwise_cons] at p
    rw [List.map_cons]
    refine List.pairwise_cons.mpr ⟨fun b hb => ?_, pred_sorted (fun z hz => h z (List.mem_cons_of_mem _ hz)) p.2⟩
    obtain ⟨k, hk, rfl⟩ := List.mem_map.mp hb
    have h1 := p.1 k hk
    have h2 := h y List.mem_cons_self
    omega
theorem nodup_len : ∀ {n : Nat} {l : List Nat}, l.Pairwise (· < ·) → (∀ x ∈ l, x < n) → l.length ≤ n
  | 0, [], _, _ => Nat.le_refl _
  | 0, x :: r, _, h => absurd (h x List.mem_cons_self) (Nat.not_lt_zero _)
  | n + 1, [], _, _ => Nat.zero_le _
  | n + 1, x :: r, p, h => by
    rw [List.pairwise_cons] at p
    have ih := nodup_len (n := n) (l := r.map (· - 1)) (pred_sorted p.1 p.2) fun y hy => by
      obtain ⟨z, hz, rfl⟩ := List.mem_map.mp hy
      have h1 := h z (List.mem_cons_of_mem _ hz)
      have h2 := p.1 z hz
      omega
    rw [List.length_map] at ih
    rw [List.length_cons]
    omega
section
variable {P : Program} {w : World} {K : PySem.W.Frag} {mg : Str → Option Value} {base : Heap} {CC CM CR CH f : Addr} {fd : FuncData}
theorem scCommon : FnScope ["self", "members", "common", "member", "seen", "commit"] ["self", "members"] (defScope cCommon) := ⟨rfl, rfl, rfl, by decide +kernel, rfl, by decide +kernel, by decide +kernel⟩
theorem bkCommon : BlkOk ["self", "members", "common", "member", "seen", "commit"] (defScope cCommon) { kind := .function, names := [(".0", .local), ("commit", .local), ("seen", .free)], isGenerator := false, isCoroutine := false } [("commit", 5)] := blkOk_by (by decide +kernel)
theorem ok_common (F : Fun K "common_ancestors" "Commits.common_ancestors" cCommon f fd) (T : Txt K mg CC CM CR CH) (MR : Mt P w K mg base CC 1 "reached" ["self", "starts"] (spReached CC K)) : FnOk P w K mg base CX0 2 f fd ["self", "members"] (spCommon CC K) := by
  refine F.ok scCommon (fun vs H Q E h => ?_) (fun cdv A outer s H vs Q E hr h => ?_)
  · obtain ⟨c, m, sh, as, rfl, _⟩ := h
    rfl
  · obtain ⟨c, m, sh, as, rfl, ⟨l, rows, C⟩, W, hm, has, k⟩ := h
    obtain ⟨dc, ho⟩ := C.obj
    have G := gd_wf W
    have h128 := G.few
    have nd := scCommon.nd
    refine ⟨_, pss_cons (ps_set (i := 2) nd rfl (Or.inl rfl) (pe_callTy (call_listR rfl) (by rfl) T.list bt_list (pa_cons (pe_callTy call_range1 (by rfl) T.range bt_range (pa_cons (pe_callB call_len_seq (by rfl) T.len bt_len (pa_cons (pe_fld (pv 0) rfl) pa_nil)) pa_nil)) pa_nil)))
      (pss_cons (ps_for PassesOwn.never rfl (pi_list (pv 1)) (pg_name (i := 3) nd rfl (Or.inl rfl))
        (pss_cons (ps_set (i := 4) nd rfl (Or.inr rfl) (pe_mt MR T.cC hr (pv 0) (pa_cons (pe_lst (pa_cons (pv 3) pa_nil)) pa_nil)))
        (pss_one (ps_setLc (i := 2) rfl nd rfl rfl (sw_true rfl rfl rfl rfl) (pi_list (pv 2)) bkCommon (fun _ _ _ _ _ => pg_name (i := 5) nd rfl (Or.inl rfl))
          (fun _ _ _ _ _ => pts_one (pt_val (pe_ix (ixK (K := K)) (pv 4) (pv 5) (fun _ _ => rfl)))) (fun _ _ _ _ _ => pv 5)))))
      (pss_one (ps_ret (pv 2)))), ?_⟩
    refine ⟨_, rfl, c, CC, dc, _, _, rfl, ho, T.cC, T.nP, look1 _ _, l, _, rfl, .inl (SqL.of C.lst), _, rfl, fun q hq => ?_⟩
    rw [List.length_map, C.rws.len]
    refine ⟨q, _, _, _, sh.parents.length, rfl, upd_same, ?_, by omega, fun p hp => ?_⟩
    · refine ⟨by decide, by decide, small_one (by omega) (by omega) (by omega) (by omega), ?_⟩
      rw [rangeSize_one]
      split <;> omega
    have s1 : Same H (upd H q (.ext (RngAt q 0 (((rows.map V.ref).length : Nat) : Int) 1))) := same_new hq
    rw [List.length_map, C.rws.len] at s1
    have hp0 : H p = none := s1.free hp
    have er : ((List.range sh.parents.length).map fun k => V.int (0 + ((k : Nat) : Int) * 1)) = nvs (List.range sh.size) := by
      unfold nvs
      refine List.map_congr_left fun k _ => ?_
      show V.int _ = V.int _
      congr 1
      omega
    rw [er]
    refine ⟨_, rfl, m, rfl, ⟨_, (same_write hp0 s1).seq hm⟩, for_list (K := K) (a := m) (xs := nvs as) (fun i σ H' => ∃ (q : Addr) (v3 v4 : Option V), σ = [some (.ref c), some (.ref m), some (.ref q), v3, v4, none] ∧ Same H H' ∧ H q = none ∧
        H' q = some (.lst (nvs ((as.take i).foldl (fun l a => l.filter fun x => (reached sh.parents [a]).getD x false) (List.range sh.size)))))
      ⟨p, none, none, rfl, same_write hp0 s1, hp0, upd_same⟩ (fun i σ H' _ ⟨_, _, _, _, s5, _⟩ => s5.seq hm) ?_ ?_⟩
    · rintro i y σ H3 hi ⟨q3, v3, v4, rfl, s3, hq3, h3⟩
      obtain ⟨a, ha, rfl⟩ := nvs_at hi
      have hal : a < sh.parents.length := has a (List.mem_of_getElem? ha)
      have C3 := C.same s3
      obtain ⟨dc3, ho3⟩ := C3.obj
      refine ⟨_, rfl, c, dc3, _, rfl, ho3, look1_no _ (by decide +kernel), _, rfl, (by show 1 ≤ sizeLine; decide), fun q4 hq4 => ?_⟩
      refine ⟨c, q4, sh.parents, [a], rfl, ⟨l, rows, C3.same (same_new hq4)⟩, SqL.of upd_same, by simpa using hal, G.few, G.low, fun H5 p5 s5 hp5 h5 => ?_⟩
      have s35 : Same H3 H5 := (same_new hq4).trans s5
      have hq5 : H5 q3 = _ := s35 _ _ h3
      refine ⟨_, rfl, q3, rfl, ⟨_, SqL.of hq5⟩, fun D hD => ?_⟩
      have pD : p5 ≠ D := ne_of_none h5 hD
      have s05 : Same H H5 := s3.trans s35
      have hlt : ∀ x ∈ (as.take i).foldl (fun l a => l.filter fun x => (reached sh.parents [a]).getD x false) (List.range sh.size), x < sh.parents.length := fun x hx => by
        rw [common_mirror W (fun a h => has a (List.mem_of_mem_take h))] at hx
        exact List.mem_range.mp (List.mem_filter.mp hx).1
      refine lc_go (fun v => match v with | .int z => if (reached sh.parents [a]).getD z.toNat false = true then some (.int z) else none | _ => none) (SqL.of hq5) hD ?_ (fun x acc hx => ?_) ?_
      · rw [nvs_len, common_mirror W (fun a h => has a (List.mem_of_mem_take h)), sizeLine_eq]
        have := List.length_filter_le (fun c => (as.take i).all fun a => from_ (table sh) a c) (List.range sh.size)
        rw [List.length_range] at this
        have h2 : sh.size ≤ 128 := h128
        omega
      · obtain ⟨z, hz, rfl⟩ := List.mem_map.mp hx
        refine ⟨(reached sh.parents [a]).getD z false, fun R r => ?_, ?_⟩
        · exact ⟨_, rfl, _, rfl, p5, _, _, _, rfl, rfl, SqL.of (by rw [upd_ne pD]; exact h5), atI_nat (bls_at (by rw [reached_length]; exact hlt z hz)), _, rfl, r⟩
        · refine ite2 (fun hb => ?_) (fun hb => ?_)
          · exact ⟨nv z, if_pos hb, fun R r => ⟨_, rfl, r⟩⟩
          · exact if_neg hb
      · refine ⟨D, _, _, rfl, s05.trans (same_new hD), s05.free hD, ?_⟩
        rw [upd_same, take_snoc ha, List.foldl_append]
        refine congrArg (fun z => some (HO.lst z)) ?_
        exact filterMap_if nv _ nv (fun z => (reached sh.parents [a]).getD z false) _ fun x _ => rfl
    · rintro σ H3 ⟨q3, v3, v4, rfl, s3, hq3, h3⟩
      refine ⟨_, rfl, ?_⟩
      rw [nvs_len, List.take_length, common_mirror W has] at h3
      exact k H3 q3 s3 hq3 h3
theorem scHeads : FnScope ["self", "members", "below", "member", "seen"] ["self", "members"] (defScope cHeads) := ⟨rfl, rfl, rfl, by decide +kernel, rfl, by decide +kernel, by decide +kernel⟩
theorem bkHeads : BlkOk ["self", "members", "below", "member", "seen"] (defScope cHeads) { kind := .function, names := [(".0", .local), ("member", .local), ("seen", .free)], isGenerator := false, isCoroutine := false } [("member", 3)] := blkOk_by (by decide +kernel)
theorem ok_heads (F : Fun K "heads" "Commits.heads" cHeads f fd) (T : Txt K mg CC CM CR CH) (MR : Mt P w K mg base CC 1 "reached" ["self", "starts"] (spReached CC K)) : FnOk P w K mg base CX0 2 f fd ["self", "members"] (spHeads CC K) := by
  refine F.ok scHeads (fun vs H Q E h => ?_) (fun cdv A outer s H vs Q E hr h => ?_)
  · obtain ⟨c, m, sh, as, rfl, _⟩ := h
    rfl
  · obtain ⟨c, m, sh, as, rfl, ⟨l, rows, C⟩, W, hm, has, hlen, k⟩ := h
    obtain ⟨dc, ho⟩ := C.obj
    have G := gd_wf W
    have h128 := G.few
    have nd := scHeads.nd
    refine ⟨_, pss_cons (ps_set (i := 2) nd rfl (Or.inl rfl) (pe_lst pa_nil))
      (pss_cons (ps_for PassesOwn.never rfl (pi_list (pv 1)) (pg_name (i := 3) nd rfl (Or.inl rfl))
        (pss_one (ps_expr (pe_bm PySem.F.plainAttrs_list PySem.F.slot_list_extend PySem.F.type_list_extend mt_extend (pv 2) (pa_cons (pe_ix ix_list (pe_fld (pv 0) rfl) (pv 3) (fun _ _ => rfl)) pa_nil)))))
      (pss_cons (ps_set (i := 4) nd rfl (Or.inr rfl) (pe_mt MR T.cC hr (pv 0) (pa_cons (pv 2) pa_nil)))
      (pss_one (ps_ret (pe_lc rfl nd (pi_list (pe_callB (call_sortedSet rfl) (by rfl) T.sorted bt_sorted (pa_cons (pe_callTy (call_set rfl) (by rfl) T.set bt_set (pa_cons (pv 1) pa_nil)) pa_nil))) bkHeads
        (fun _ _ _ _ _ => pg_name (i := 3) nd rfl (Or.inl rfl)) (fun _ _ _ _ _ => pts_one (pt_not (pt_val (pe_ix (ixK (K := K)) (pv 4) (pv 3) (fun _ _ => rfl))))) (fun _ _ _ _ _ => pv 3)))))), ?_⟩
    refine ⟨Nat.zero_le _, fun q hq => ?_⟩
    refine ⟨_, rfl, m, rfl, ⟨_, (same_new hq).seq hm⟩, for_list (K := K) (a := m) (xs := nvs as) (fun i σ H' => ∃ (v3 : Option V), σ = [some (.ref c), some (.ref m), some (.ref q), v3, none] ∧ Same H H' ∧
        H' q = some (.lst (nvs ((as.take i).flatMap fun a => sh.parents.getD a []))))
      ⟨none, rfl, same_new hq, upd_same⟩ (fun i σ H' _ ⟨_, _, s5, _⟩ => s5.seq hm) ?_ ?_⟩
    · rintro i y σ H3 hi ⟨v3, rfl, s3, h3⟩
      obtain ⟨a, ha, rfl⟩ := nvs_at hi
      have hal : a < sh.parents.length := has a (List.mem_of_getElem? ha)
      have C3 := C.same s3
      obtain ⟨dc3, ho3⟩ := C3.obj
      obtain ⟨r, hr1, hr2⟩ := C3.rws.row hal
      refine ⟨_, rfl, .inl ⟨rfl, _, SqL.of h3⟩, _, rfl, c, CC, dc3, _, _, rfl, ho3, T.cC, T.nP, look1 _ _, _, rfl, l, _, _, _, rfl, rfl, SqL.of C3.lst, atI_nat (refs_at hr1), q, r, _, _, rfl, rfl, h3, hr2, ?_, ?_⟩
      · rw [nvs_len, nvs_len, sizeLine_eq]
        have h1 := flat_len G (as.take i)
        have h2 := G.len a
        have h4 : (as.take i).length ≤ as.length := by rw [List.length_take]; exact Nat.min_le_right _ _
        omega
      · refine ⟨_, rfl, same_write hq s3, ?_⟩
        rw [upd_same, take_snoc ha, List.flatMap_append]
        unfold nvs
        rw [List.map_append]
        simp
    · rintro σ H3 ⟨v3, rfl, s3, h3⟩
      rw [nvs_len, List.take_length] at h3
      have C3 := C.same s3
      obtain ⟨dc3, ho3⟩ := C3.obj
      refine ⟨_, rfl, c, dc3, _, rfl, ho3, look1_no _ (by decide +kernel), _, rfl, ?_⟩
      refine ⟨c, q, sh.parents, _, rfl, ⟨l, rows, C3⟩, SqL.of h3, fun x hx => ?_, G.few, G.low, fun H5 p5 s5 hp5 h5 => ?_⟩
      · obtain ⟨a, h1, h2⟩ := List.mem_flatMap.mp hx
        have h3 := G.low _ _ h2
        have h4 : a < sh.parents.length := has a h1
        omega
      have s05 : Same H H5 := s3.trans s5
      refine ⟨_, rfl, m, as.map Int.ofNat, rfl, by rw [← nvs_ints]; exact s05.seq hm, by rw [List.length_map]; omega, fun z hz => ?_⟩
      refine ⟨z, _, rfl, upd_same, fun ms p6 pw mem hp6 => ?_⟩
      have s6 : Same H5 (upd (upd H5 z (.ext (SetX w z (as.map Int.ofNat)))) p6 (.lst (ms.map V.int))) := (same_new hz).trans (same_new hp6)
      refine ⟨p6, rfl, ⟨_, SqL.of upd_same⟩, fun D hD => ?_⟩
      have nn : ∀ k ∈ ms, 0 ≤ k := fun k hk => by
        obtain ⟨x, _, rfl⟩ := List.mem_map.mp ((mem k).mp hk)
        exact Int.natCast_nonneg x
      have mem' : ∀ x, x ∈ ms.map Int.toNat ↔ x ∈ as := fun x => by
        constructor
        · intro h
          obtain ⟨k, hk, rfl⟩ := List.mem_map.mp h
          obtain ⟨y, hy, rfl⟩ := List.mem_map.mp ((mem k).mp hk)
          exact hy
        · intro h
          exact List.mem_map.mpr ⟨(x : Int), (mem _).mpr (List.mem_map.mpr ⟨x, h, rfl⟩), rfl⟩
      have srt := toNats_sorted nn pw
      rw [toNats_nvs nn] at hD ⊢
      have h5' := s6 _ _ h5
      rw [toNats_nvs nn] at h5'
      have pD : p5 ≠ D := ne_of_none h5' hD
      refine lc_go (fun v => match v with | .int z => if (!(reached sh.parents (as.flatMap fun a => sh.parents.getD a [])).getD z.toNat false) = true then some (.int z) else none | _ => none) (SqL.of upd_same) hD ?_ (fun x acc hx => ?_) ?_
      · rw [nvs_len, sizeLine_eq]
        have := nodup_len srt (n := 128) fun x hx => by
          have h1 := has x ((mem' x).mp hx)
          have h2 : sh.size ≤ 128 := h128
          omega
        omega
      · obtain ⟨z, hz, rfl⟩ := List.mem_map.mp hx
        refine ⟨!(reached sh.parents (as.flatMap fun a => sh.parents.getD a [])).getD z false, fun R r => ?_, ?_⟩
        · exact ⟨_, rfl, _, rfl, p5, _, _, _, rfl, rfl, SqL.of (by rw [upd_ne pD]; exact h5'), atI_nat (bls_at (by rw [reached_length]; exact has z ((mem' z).mp hz))), _, rfl, r⟩
        · refine ite2 (fun hb => ?_) (fun hb => ?_)
          · exact ⟨nv z, if_pos hb, fun R r => ⟨_, rfl, r⟩⟩
          · exact if_neg hb
      · refine k _ D ((s05.trans (by rw [toNats_nvs nn] at s6; exact s6)).trans (same_new hD)) ((s05.trans (by rw [toNats_nvs nn] at s6; exact s6)).free hD) ?_
        rw [upd_same, ← heads_mirror W has srt mem']
        refine congrArg (fun z => some (HO.lst z)) ?_
        exact filterMap_if nv _ nv (fun z => !(reached sh.parents (as.flatMap fun a => sh.parents.getD a [])).getD z false) _ fun x _ => rfl
theorem scBest : FnScope ["self", "members"] ["self", "members"] (defScope cBest) := ⟨rfl, rfl, rfl, by decide +kernel, rfl, by decide +kernel, by decide +kernel⟩
theorem ok_best (F : Fun K "best_common" "Commits.best_common" cBest f fd) (T : Txt K mg CC CM CR CH) (MC : Mt P w K mg base CC 2 "common_ancestors" ["self", "members"] (spCommon CC K)) (MH : Mt P w K mg base CC 2 "heads" ["self", "members"] (spHeads CC K)) : FnOk P w K mg base CX0 3 f fd ["self", "members"] (spBest CC K) := by
  refine F.ok scBest (fun vs H Q E h => ?_) (fun cdv A outer s H vs Q E hr h => ?_)
  · obtain ⟨c, m, sh, as, rfl, _⟩ := h
    rfl
  · obtain ⟨c, m, sh, as, rfl, ⟨l, rows, C⟩, W, hm, has, k⟩ := h
    obtain ⟨dc, ho⟩ := C.obj
    have G := gd_wf W
    have h128 := G.few
    refine ⟨_, pss_one (ps_ret (pe_mt MH T.cC hr (pv 0) (pa_cons (pe_mt MC T.cC hr (pv 0) (pa_cons (pv 1) pa_nil)) pa_nil))), ?_⟩
    refine ⟨_, rfl, c, dc, _, rfl, ho, look1_no _ (by decide +kernel), _, rfl, c, dc, _, rfl, ho, look1_no _ (by decide +kernel), _, rfl, ?_⟩
    refine ⟨c, m, sh, as, rfl, ⟨l, rows, C⟩, W, hm, has, fun H1 p1 s1 hp1 h1 => ?_⟩
    refine ⟨c, p1, sh, _, rfl, ⟨l, rows, C.same s1⟩, W, SqL.of h1, commonOf_lt as, ?_, fun H2 p2 s2 hp2 h2 => ?_⟩
    · have := List.length_filter_le (fun c => as.all fun a => from_ (table sh) a c) (List.range sh.size)
      rw [List.length_range] at this
      exact Nat.le_trans this h128
    · rw [← best_heads] at h2
      exact k H2 p2 (s1.trans s2) (s1.free hp2) h2
end
end Pr
end
section
set_option Elab.async false
set_option linter.all false
set_option maxRecDepth 100000
set_option maxHeartbeats 4000000
namespace Pr
open PySem PySem.Spec PyProof.Rows L2 Mb Mm
abbrev cWalk : Stmt := inClass (top 1) 12
abbrev cBetween : Stmt := inClass (top 1) 13
abbrev cLook : Stmt := inClass (top 1) 14
/-! ### promises -/
def spWalk (CC : Addr) (K : PySem.W.Frag) : Sp := fun vs H Q _ => ∃ (c m n : Addr) (s : Hist) (as bs : List Nat), vs = [.ref c, .ref m, .ref n] ∧ CAt CC H c s.parents ∧ Wf s ∧ SqL K H m (nvs as) ∧ SqL K H n (nvs bs) ∧ (∀ a ∈ as, a < s.size) ∧ (∀ a ∈ bs, a < s.size) ∧
  ∀ (H' : Hp) (p : Addr), Same H H' → H p = none → H' p = some (.lst (nvs (Mb.walk s as bs).reverse)) → Q (.ref p) H'
def spBetween (CC : Addr) : Sp := fun vs H Q _ => ∃ (c : Addr) (s : Hist) (a b : Nat), vs = [.ref c, nv a, nv b] ∧ CAt CC H c s.parents ∧ Wf s ∧ a < s.size ∧ b < s.size ∧
  ∀ (H' : Hp) (p : Addr), Same H H' → H p = none → H' p = some (.lst (nvs (Mb.between s a b).reverse)) → Q (.ref p) H'
def spLook (CC : Addr) (K : PySem.W.Frag) : Sp := fun vs H Q _ => ∃ (c m : Addr) (s : Hist) (l : List Nat), vs = [.ref c, .ref m] ∧ CAt CC H c s.parents ∧ Wf s ∧ SqL K H m (nvs l.reverse) ∧ (∀ a ∈ l, a < s.size) ∧ l.length ≤ 128 ∧
  ∀ (H' : Hp), Same H H' → Q (ov (Mb.halve s l)) H'
theorem one_lt {a n : Nat} (h : a < n) : ∀ x ∈ [a], x < n := fun x hx => by
  have e : x = a := by simpa using hx
  subst e
  exact h
theorem walk_mirror {s : Hist} (W : Wf s) {as bs : List Nat} (ha : ∀ a ∈ as, a < s.size) (hb : ∀ a ∈ bs, a < s.size) :
    (List.range s.parents.length).filter (fun c => (reached s.parents as).getD c false && !(reached s.parents bs).getD c false) = Mb.walk s as bs := by
  refine sorted_ext (filter_sorted (range_sorted _) _) (walk_sorted W as bs) fun x => ?_
  rw [mem_walk W ha hb, List.mem_filter, Bool.and_eq_true, reached_iff W.low ha]
  constructor
  · rintro ⟨_, h1, h2⟩
    refine ⟨h1, fun b hb' h => ?_⟩
    have := (reached_iff W.low hb x).mpr ⟨b, hb', h⟩
    rw [this] at h2
    cases h2
  · rintro ⟨h1, h2⟩
    refine ⟨?_, h1, ?_⟩
    · obtain ⟨a, h3, h4⟩ := h1
      have h5 := h4.le W.low
      have h6 : a < s.parents.length := ha a h3
      exact List.mem_range.mpr (by omega)
    · cases e : (reached s.parents bs).getD x false with
      | false => rfl
      | true =>
        obtain ⟨b, h3, h4⟩ := (reached_iff W.low hb x).mp e
        exact absurd h4 (h2 b h3)
theorem between_mirror {s : Hist} (W : Wf s) {a b : Nat} (ha : a < s.size) {bs : List Bool} (hbs : ∀ c, c < s.parents.length → (bs.getD c false = true ↔ Anc s.parents c b)) :
    (List.range s.parents.length).filter (fun c => (reached s.parents [a]).getD c false && bs.getD c false) = Mb.between s a b := by
  refine sorted_ext (filter_sorted (range_sorted _) _) (between_sorted W a b) fun x => ?_
  rw [mem_between W ha, List.mem_filter, Bool.and_eq_true, reached_iff W.low (one_lt ha)]
  constructor
  · rintro ⟨h0, ⟨a', h1, h2⟩, h3⟩
    have e : a' = a := by simpa using h1
    subst e
    exact ⟨h2, (hbs x (List.mem_range.mp h0)).mp h3⟩
  · rintro ⟨h1, h2⟩
    have h5 := h1.le W.low
    have h6 : a < s.parents.length := ha
    exact ⟨List.mem_range.mpr (by omega), ⟨a, by simp, h1⟩, (hbs x (by omega)).mpr h2⟩
/-- over a list from its end, that the body leaves as it is -/
theorem for_rev {K : PySem.W.Frag} {a : Addr} {xs : List V} {g : TG} {tb : TS} {D : Ends} {σ : L2.St} {H : Hp} (Pv : Nat → L2.St → Hp → Prop) (h0 : Pv 0 σ H) (hl : ∀ i σ H, i ≤ xs.length → Pv i σ H → SqL K H a xs)
    (hs : ∀ i x σ H, i < xs.length → xs[xs.length - 1 - i]? = some x → Pv i σ H → g x σ H fun σ2 H2 => tb { D with nx := Pv (i + 1), ct := Pv (i + 1), bk := D.nx } σ2 H2) (hd : ∀ σ H, Pv xs.length σ H → D.nx σ H) :
    ∃ W : Nat → Nat → L2.St → Hp → Prop, (∃ m, W 0 m σ H) ∧ ∀ i m σ H, W i m σ H →
      ((Itv K a xs.length).stop i H ∧ D.nx σ H) ∨ ((Itv K a xs.length).go i H ∧ ∃ N : L2.St → Hp → Prop, (∀ σ' H', N σ' H' → ∃ m', m' < m ∧ W (i + 1) m' σ' H') ∧ ∀ x H', (Itv K a xs.length).yld i H x H' → g x σ H' fun σ2 H2 => tb { D with nx := N, ct := N, bk := D.nx } σ2 H2) := by
  refine ⟨fun i m σ H => m = xs.length - i ∧ i ≤ xs.length ∧ Pv i σ H, ⟨xs.length, by simp, Nat.zero_le _, h0⟩, ?_⟩
  rintro i m σ H ⟨rfl, hi, p⟩
  have q := hl i σ H hi p
  by_cases hlt : i < xs.length
  · have hj : xs.length - 1 - i < xs.length := by omega
    refine .inr ⟨⟨hlt, xs, xs[xs.length - 1 - i], q, List.getElem?_eq_getElem hj⟩, Pv (i + 1), fun σ' H' p' => ⟨xs.length - (i + 1), by omega, rfl, hlt, p'⟩, fun x H' y => ?_⟩
    obtain ⟨e, y⟩ := y
    subst e
    exact hs i x σ _ hlt (y xs q) p
  · have e : i = xs.length := by omega
    subst e
    exact .inl ⟨Nat.le_refl _, hd σ H p⟩
def accOf (s : Hist) (l k : List Nat) : Option (Nat × Nat) := (k.map fun c => (c, gain l.length (l.filter fun x => (reached s.parents [c]).getD x false).length)).foldl up1 none
def mostV : Option (Nat × Nat) → Int
  | none => -1
  | some y => (y.2 : Int)
theorem acc_snoc (s : Hist) (l k : List Nat) (c : Nat) : accOf s l (k ++ [c]) = up1 (accOf s l k) (c, gain l.length (l.filter fun x => (reached s.parents [c]).getD x false).length) := by
  unfold accOf
  rw [List.map_append, List.foldl_append]
  rfl
theorem acc_halve {s : Hist} (W : Wf s) {l : List Nat} (hl : ∀ a ∈ l, a < s.size) : (accOf s l l).map (·.1) = Mb.halve s l := by
  unfold accOf Mb.halve
  rw [most_foldl]
  congr 2
  refine List.map_congr_left fun c hc => ?_
  have e : (l.filter fun x => (reached s.parents [c]).getD x false) = l.filter fun x => from_ (table s) c x := by
    refine List.filter_congr fun x hx => ?_
    have h1 := from_some s W.low (hl c hc) x
    have h2 := reached_iff W.low (starts := [c]) (one_lt (hl c hc)) x
    rw [Bool.eq_iff_iff, h1, h2]
    simp
  rw [e]
section
variable {P : Program} {w : World} {K : PySem.W.Frag} {mg : Str → Option Value} {base : Heap} {CC CM CR CH f : Addr} {fd : FuncData}
theorem scWalk : FnScope ["self", "first", "second", "inside", "outside", "commit"] ["self", "first", "second"] (defScope cWalk) := ⟨rfl, rfl, rfl, by decide +kernel, rfl, by decide +kernel, by decide +kernel⟩
theorem bkWalk : BlkOk ["self", "first", "second", "inside", "outside", "commit"] (defScope cWalk) { kind := .function, names := [(".0", .local), ("commit", .local), ("inside", .free), ("outside", .free)], isGenerator := false, isCoroutine := false } [("commit", 5)] := blkOk_by (by decide +kernel)
theorem ok_walk (F : Fun K "walk" "Commits.walk" cWalk f fd) (T : Txt K mg CC CM CR CH) (MR : Mt P w K mg base CC 1 "reached" ["self", "starts"] (spReached CC K)) (MF : Mt P w K mg base CC 1 "falling" ["self"] (spFalling CC)) : FnOk P w K mg base CX0 2 f fd ["self", "first", "second"] (spWalk CC K) := by
  refine F.ok scWalk (fun vs H Q E h => ?_) (fun cdv A outer s H vs Q E hr h => ?_)
  · obtain ⟨c, m, n, sh, as, bs, rfl, _⟩ := h
    rfl
  · obtain ⟨c, m, n, sh, as, bs, rfl, ⟨l, rows, C⟩, W, hm, hn, has, hbs, k⟩ := h
    obtain ⟨dc, ho⟩ := C.obj
    have G := gd_wf W
    have h128 := G.few
    have nd := scWalk.nd
    refine ⟨_, pss_cons (ps_set (i := 3) nd rfl (Or.inr rfl) (pe_mt MR T.cC hr (pv 0) (pa_cons (pv 1) pa_nil)))
      (pss_cons (ps_set (i := 4) nd rfl (Or.inr rfl) (pe_mt MR T.cC hr (pv 0) (pa_cons (pv 2) pa_nil)))
      (pss_one (ps_ret (pe_lc rfl nd (pi_list (pe_mt0 MF T.cC hr (pv 0))) bkWalk (fun _ _ _ _ _ => pg_name (i := 5) nd rfl (Or.inl rfl))
        (fun _ _ _ _ _ => pts_one (PW.pt (pw_and (pt_val (pe_ix (ixK (K := K)) (pv 3) (pv 5) (fun _ _ => rfl))) (pw_and1 (pt_not (pt_val (pe_ix (ixK (K := K)) (pv 4) (pv 5) (fun _ _ => rfl)))))))) (fun _ _ _ _ _ => pv 5))))), ?_⟩
    refine ⟨_, rfl, c, dc, _, rfl, ho, look1_no _ (by decide +kernel), _, rfl, ?_⟩
    refine ⟨c, m, sh.parents, as, rfl, ⟨l, rows, C⟩, hm, has, G.few, G.low, fun H1 p1 s1 hp1 h1 => ?_⟩
    have C1 := C.same s1
    obtain ⟨dc1, ho1⟩ := C1.obj
    refine ⟨_, rfl, c, dc1, _, rfl, ho1, look1_no _ (by decide +kernel), _, rfl, ?_⟩
    refine ⟨c, n, sh.parents, bs, rfl, ⟨l, rows, C1⟩, s1.seq hn, hbs, G.few, G.low, fun H2 p2 s2 hp2 h2 => ?_⟩
    have C2 := C1.same s2
    obtain ⟨dc2, ho2⟩ := C2.obj
    refine ⟨_, rfl, c, dc2, _, rfl, ho2, look1_no _ (by decide +kernel), ?_⟩
    refine ⟨c, sh.parents, rfl, ⟨l, rows, C2⟩, G, fun H3 p3 s3 hp3 h3 => ?_⟩
    have s03 : Same H H3 := (s1.trans s2).trans s3
    have h13 := s3 _ _ (s2 _ _ h1)
    have h23 := s3 _ _ h2
    refine ⟨p3, rfl, ⟨_, SqL.of h3⟩, fun D hD => ?_⟩
    have pD1 : p1 ≠ D := ne_of_none h13 hD
    have pD2 : p2 ≠ D := ne_of_none h23 hD
    refine lc_go (fun v => match v with | .int z => if ((reached sh.parents as).getD z.toNat false && !(reached sh.parents bs).getD z.toNat false) = true then some (.int z) else none | _ => none) (SqL.of h3) hD ?_ (fun x acc hx => ?_) ?_
    · rw [nvs_len, List.length_reverse, List.length_range, sizeLine_eq]
      omega
    · obtain ⟨z, hz, rfl⟩ := List.mem_map.mp hx
      have hzl : z < sh.parents.length := List.mem_range.mp (List.mem_reverse.mp hz)
      refine ⟨(reached sh.parents as).getD z false && !(reached sh.parents bs).getD z false, fun R r => ?_, ?_⟩
      · refine ⟨_, rfl, _, rfl, p1, _, _, _, rfl, rfl, SqL.of (by rw [upd_ne pD1]; exact h13), atI_nat (bls_at (by rw [reached_length]; exact hzl)), _, rfl, ?_⟩
        cases e : (reached sh.parents as).getD z false with
        | false =>
          rw [e] at r
          exact iteF r
        | true =>
          rw [e] at r
          refine iteT ⟨_, rfl, _, rfl, p2, _, _, _, rfl, rfl, SqL.of (by rw [upd_ne pD2]; exact h23), atI_nat (bls_at (by rw [reached_length]; exact hzl)), _, rfl, r⟩
      · refine ite2 (fun hb => ?_) (fun hb => ?_)
        · exact ⟨nv z, if_pos hb, fun R r => ⟨_, rfl, r⟩⟩
        · exact if_neg hb
    · refine k _ D (s03.trans (same_new hD)) (s03.free hD) ?_
      rw [upd_same, ← walk_mirror W has hbs, ← List.filter_reverse]
      refine congrArg (fun z => some (HO.lst z)) ?_
      exact filterMap_if nv _ nv (fun z => (reached sh.parents as).getD z false && !(reached sh.parents bs).getD z false) _ fun x _ => rfl
theorem scBetween : FnScope ["self", "upper", "lower", "below", "above", "commit"] ["self", "upper", "lower"] (defScope cBetween) := ⟨rfl, rfl, rfl, by decide +kernel, rfl, by decide +kernel, by decide +kernel⟩
theorem bkBetween : BlkOk ["self", "upper", "lower", "below", "above", "commit"] (defScope cBetween) { kind := .function, names := [(".0", .local), ("commit", .local), ("above", .free), ("below", .free)], isGenerator := false, isCoroutine := false } [("commit", 5)] := blkOk_by (by decide +kernel)
theorem ok_between (F : Fun K "between" "Commits.between" cBetween f fd) (T : Txt K mg CC CM CR CH) (MR : Mt P w K mg base CC 1 "reached" ["self", "starts"] (spReached CC K)) (MG : Mt P w K mg base CC 1 "reaching" ["self", "ancestor"] (spReaching CC)) (MF : Mt P w K mg base CC 1 "falling" ["self"] (spFalling CC)) : FnOk P w K mg base CX0 2 f fd ["self", "upper", "lower"] (spBetween CC) := by
  refine F.ok scBetween (fun vs H Q E h => ?_) (fun cdv A outer s H vs Q E hr h => ?_)
  · obtain ⟨c, sh, a, b, rfl, _⟩ := h
    rfl
  · obtain ⟨c, sh, a, b, rfl, ⟨l, rows, C⟩, W, ha, hb, k⟩ := h
    obtain ⟨dc, ho⟩ := C.obj
    have G := gd_wf W
    have h128 := G.few
    have nd := scBetween.nd
    refine ⟨_, pss_cons (ps_set (i := 3) nd rfl (Or.inr rfl) (pe_mt MR T.cC hr (pv 0) (pa_cons (pe_lst (pa_cons (pv 1) pa_nil)) pa_nil)))
      (pss_cons (ps_set (i := 4) nd rfl (Or.inr rfl) (pe_mt MG T.cC hr (pv 0) (pa_cons (pv 2) pa_nil)))
      (pss_one (ps_ret (pe_lc rfl nd (pi_list (pe_mt0 MF T.cC hr (pv 0))) bkBetween (fun _ _ _ _ _ => pg_name (i := 5) nd rfl (Or.inl rfl))
        (fun _ _ _ _ _ => pts_one (PW.pt (pw_and (pt_val (pe_ix (ixK (K := K)) (pv 3) (pv 5) (fun _ _ => rfl))) (pw_and1 (pt_val (pe_ix (ixK (K := K)) (pv 4) (pv 5) (fun _ _ => rfl))))))) (fun _ _ _ _ _ => pv 5))))), ?_⟩
    refine ⟨_, rfl, c, dc, _, rfl, ho, look1_no _ (by decide +kernel), _, rfl, (by show 1 ≤ sizeLine; decide), fun q hq => ?_⟩
    refine ⟨c, q, sh.parents, [a], rfl, ⟨l, rows, C.same (same_new hq)⟩, SqL.of upd_same, one_lt ha, G.few, G.low, fun H1 p1 s1' hp1 h1 => ?_⟩
    have s1 : Same H H1 := (same_new hq).trans s1'
    have C1 := C.same s1
    obtain ⟨dc1, ho1⟩ := C1.obj
    refine ⟨_, rfl, c, dc1, _, rfl, ho1, look1_no _ (by decide +kernel), _, rfl, ?_⟩
    refine ⟨c, sh.parents, b, rfl, ⟨l, rows, C1⟩, hb, G, fun H2 p2 bs s2 hp2 h2 hlen hbs => ?_⟩
    have C2 := C1.same s2
    obtain ⟨dc2, ho2⟩ := C2.obj
    refine ⟨_, rfl, c, dc2, _, rfl, ho2, look1_no _ (by decide +kernel), ?_⟩
    refine ⟨c, sh.parents, rfl, ⟨l, rows, C2⟩, G, fun H3 p3 s3 hp3 h3 => ?_⟩
    have s03 : Same H H3 := (s1.trans s2).trans s3
    have h13 := s3 _ _ (s2 _ _ h1)
    have h23 := s3 _ _ h2
    refine ⟨p3, rfl, ⟨_, SqL.of h3⟩, fun D hD => ?_⟩
    have pD1 : p1 ≠ D := ne_of_none h13 hD
    have pD2 : p2 ≠ D := ne_of_none h23 hD
    refine lc_go (fun v => match v with | .int z => if ((reached sh.parents [a]).getD z.toNat false && bs.getD z.toNat false) = true then some (.int z) else none | _ => none) (SqL.of h3) hD ?_ (fun x acc hx => ?_) ?_
    · rw [nvs_len, List.length_reverse, List.length_range, sizeLine_eq]
      omega
    · obtain ⟨z, hz, rfl⟩ := List.mem_map.mp hx
      have hzl : z < sh.parents.length := List.mem_range.mp (List.mem_reverse.mp hz)
      refine ⟨(reached sh.parents [a]).getD z false && bs.getD z false, fun R r => ?_, ?_⟩
      · refine ⟨_, rfl, _, rfl, p1, _, _, _, rfl, rfl, SqL.of (by rw [upd_ne pD1]; exact h13), atI_nat (bls_at (by rw [reached_length]; exact hzl)), _, rfl, ?_⟩
        cases e : (reached sh.parents [a]).getD z false with
        | false =>
          rw [e] at r
          exact iteF r
        | true =>
          rw [e] at r
          refine iteT ⟨_, rfl, _, rfl, p2, _, _, _, rfl, rfl, SqL.of (by rw [upd_ne pD2]; exact h23), atI_nat (bls_at (by rw [hlen]; exact hzl)), _, rfl, r⟩
      · refine ite2 (fun hb => ?_) (fun hb => ?_)
        · exact ⟨nv z, if_pos hb, fun R r => ⟨_, rfl, r⟩⟩
        · exact if_neg hb
    · refine k _ D (s03.trans (same_new hD)) (s03.free hD) ?_
      rw [upd_same, ← between_mirror W ha hbs, ← List.filter_reverse]
      refine congrArg (fun z => some (HO.lst z)) ?_
      exact filterMap_if nv _ nv (fun z => (reached sh.parents [a]).getD z false && bs.getD z false) _ fun x _ => rfl
theorem scLook : FnScope ["self", "candidates", "best", "most", "candidate", "seen", "inside", "smaller", "other"] ["self", "candidates"] (defScope cLook) := ⟨rfl, rfl, rfl, by decide +kernel, rfl, by decide +kernel, by decide +kernel⟩
theorem bkLook : BlkOk ["self", "candidates", "best", "most", "candidate", "seen", "inside", "smaller", "other"] (defScope cLook) { kind := .function, names := [(".0", .local), ("other", .local), ("seen", .free)], isGenerator := false, isCoroutine := false } [("other", 8)] := blkOk_by (by decide +kernel)
theorem ok_look (F : Fun K "best_look" "Commits.best_look" cLook f fd) (T : Txt K mg CC CM CR CH) (MR : Mt P w K mg base CC 1 "reached" ["self", "starts"] (spReached CC K)) : FnOk P w K mg base CX0 2 f fd ["self", "candidates"] (spLook CC K) := by
  refine F.ok scLook (fun vs H Q E h => ?_) (fun cdv A outer s H vs Q E hr h => ?_)
  · obtain ⟨c, m, sh, cs, rfl, _⟩ := h
    rfl
  · obtain ⟨c, m, sh, cs, rfl, ⟨l, rows, C⟩, W, hm, hcs, hlen, k⟩ := h
    obtain ⟨dc, ho⟩ := C.obj
    have G := gd_wf W
    have h128 := G.few
    have nd := scLook.nd
    refine ⟨_, pss_cons (ps_set (i := 2) nd rfl (Or.inl rfl) pe_non) (pss_cons (ps_set (i := 3) nd rfl (Or.inl rfl) (pe_un un_neg pe_int))
      (pss_cons (ps_for PassesOwn.never rfl (pi_reversed rfl T.reversed (pa_cons (pv 1) pa_nil)) (pg_name (i := 4) nd rfl (Or.inl rfl))
        (pss_cons (ps_set (i := 5) nd rfl (Or.inr rfl) (pe_mt MR T.cC hr (pv 0) (pa_cons (pe_lst (pa_cons (pv 4) pa_nil)) pa_nil)))
        (pss_cons (ps_set (i := 6) nd rfl (Or.inl rfl) (pe_callB call_len_seq (by rfl) T.len bt_len (pa_cons (pe_lc rfl nd (pi_list (pv 1)) bkLook (fun _ _ _ _ _ => pg_name (i := 8) nd rfl (Or.inl rfl))
          (fun _ _ _ _ _ => pts_one (pt_val (pe_ix (ixK (K := K)) (pv 5) (pv 8) (fun _ _ => rfl)))) (fun _ _ _ _ _ => pv 8)) pa_nil)))
        (pss_cons (ps_set (i := 7) nd rfl (Or.inl rfl) (pe_callB (call_min2 rfl) (by rfl) T.min bt_min (pa_cons (pv 6) (pa_cons (pe_op op_sub (pe_callB call_len_seq (by rfl) T.len bt_len (pa_cons (pv 1) pa_nil)) (pv 6)) pa_nil))))
        (pss_one (ps_if (pt_cmpR op_gt (pv 7) (pv 3) (nomark _)) (pss_cons (ps_set (i := 2) nd rfl (Or.inl rfl) (pv 4)) (pss_one (ps_set (i := 3) nd rfl (Or.inl rfl) (pv 7)))) pss_nil))))))
      (pss_one (ps_ret (pv 2))))), ?_⟩
    refine ⟨_, rfl, _, rfl, m, _, rfl, hm, ?_⟩
    refine for_rev (K := K) (a := m) (xs := nvs cs.reverse) (fun i σ H' => ∃ (v4 v5 v6 v7 : Option V), σ = [some (.ref c), some (.ref m), some (ov ((accOf sh cs (cs.take i)).map (·.1))), some (.int (mostV (accOf sh cs (cs.take i)))), v4, v5, v6, v7, none] ∧ Same H H')
      ⟨none, none, none, none, rfl, Same.refl H⟩ (fun i σ H' _ ⟨_, _, _, _, _, s5⟩ => s5.seq hm) ?_ ?_
    · rintro i y σ H3 hi hy ⟨v4, v5, v6, v7, rfl, s3⟩
      rw [nvs_len, List.length_reverse] at hi hy
      obtain ⟨a, ha, rfl⟩ := nvs_at hy
      have ha' : cs[i]? = some a := by
        rw [List.getElem?_reverse (by omega)] at ha
        rw [← ha]
        congr 1
        omega
      have hal : a < sh.parents.length := hcs a (List.mem_of_getElem? ha')
      have C3 := C.same s3
      obtain ⟨dc3, ho3⟩ := C3.obj
      refine ⟨_, rfl, c, dc3, _, rfl, ho3, look1_no _ (by decide +kernel), _, rfl, (by show 1 ≤ sizeLine; decide), fun q4 hq4 => ?_⟩
      refine ⟨c, q4, sh.parents, [a], rfl, ⟨l, rows, C3.same (same_new hq4)⟩, SqL.of upd_same, by simpa using hal, G.few, G.low, fun H5 p5 s5 hp5 h5 => ?_⟩
      have s05 : Same H H5 := (s3.trans (same_new hq4)).trans s5
      refine ⟨_, rfl, m, rfl, ⟨_, s05.seq hm⟩, fun D hD => ?_⟩
      have pD : p5 ≠ D := ne_of_none h5 hD
      refine lc_go (fun v => match v with | .int z => if (reached sh.parents [a]).getD z.toNat false = true then some (.int z) else none | _ => none) (s05.seq hm) hD ?_ (fun x acc hx => ?_) ?_
      · rw [nvs_len, List.length_reverse, sizeLine_eq]
        omega
      · obtain ⟨z, hz, rfl⟩ := List.mem_map.mp hx
        have hzl : z < sh.parents.length := hcs z (List.mem_reverse.mp hz)
        refine ⟨(reached sh.parents [a]).getD z false, fun R r => ?_, ?_⟩
        · exact ⟨_, rfl, _, rfl, p5, _, _, _, rfl, rfl, SqL.of (by rw [upd_ne pD]; exact h5), atI_nat (bls_at (by rw [reached_length]; exact hzl)), _, rfl, r⟩
        · refine ite2 (fun hb => ?_) (fun hb => ?_)
          · exact ⟨nv z, if_pos hb, fun R r => ⟨_, rfl, r⟩⟩
          · exact if_neg hb
      · have e1 : ((nvs cs.reverse).filterMap (fun v => match v with | .int z => if (reached sh.parents [a]).getD z.toNat false = true then some (V.int z) else none | _ => none)).length = (cs.filter fun x => (reached sh.parents [a]).getD x false).length := by
          rw [show (nvs cs.reverse).filterMap _ = _ from filterMap_if nv _ nv (fun z => (reached sh.parents [a]).getD z false) _ fun x _ => rfl, List.length_map, List.filter_reverse, List.length_reverse]
        refine ⟨D, _, rfl, .inl (SqL.of upd_same), ?_⟩
        rw [e1]
        have sD := s05.trans (same_new hD (o := .lst ((nvs cs.reverse).filterMap (fun v => match v with | .int z => if (reached sh.parents [a]).getD z.toNat false = true then some (V.int z) else none | _ => none))))
        refine ⟨_, rfl, _, rfl, m, _, rfl, .inl (sD.seq hm), _, rfl, _, _, rfl, rfl, _, _, rfl, ?_⟩
        have e2 : (if (((nvs cs.reverse).length : Nat) : Int) - ((cs.filter fun x => (reached sh.parents [a]).getD x false).length : Int) < ((cs.filter fun x => (reached sh.parents [a]).getD x false).length : Int) then (((nvs cs.reverse).length : Nat) : Int) - ((cs.filter fun x => (reached sh.parents [a]).getD x false).length : Int) else ((cs.filter fun x => (reached sh.parents [a]).getD x false).length : Int)) = ((gain cs.length (cs.filter fun x => (reached sh.parents [a]).getD x false).length : Nat) : Int) := by
          have h1 : (cs.filter fun x => (reached sh.parents [a]).getD x false).length ≤ cs.length := List.length_filter_le _ _
          rw [nvs_len, List.length_reverse]
          unfold gain
          rw [Nat.min_def]
          split <;> split <;> omega
        rw [e2]
        refine ⟨_, rfl, _, rfl, _, _, rfl, rfl, _, rfl, ?_⟩
        have e3 := acc_snoc sh cs (cs.take i) a
        rw [← take_snoc ha'] at e3
        refine ite2 (fun hb => ?_) (fun hb => ?_)
        · have hb : mostV (accOf sh cs (cs.take i)) < ((gain cs.length (cs.filter fun x => (reached sh.parents [a]).getD x false).length : Nat) : Int) := of_decide_eq_true hb
          refine ⟨_, rfl, _, rfl, some (nv a), some (.ref p5), some (.int (cs.filter fun x => (reached sh.parents [a]).getD x false).length), some (.int (gain cs.length (cs.filter fun x => (reached sh.parents [a]).getD x false).length)), ?_, sD⟩
          have e4 : accOf sh cs (cs.take (i + 1)) = some (a, gain cs.length (cs.filter fun x => (reached sh.parents [a]).getD x false).length) := by
            rw [e3]
            cases ea : accOf sh cs (cs.take i) with
            | none => rfl
            | some y =>
              rw [ea] at hb
              have hb : ((y.2 : Nat) : Int) < _ := hb
              show (if y.2 < _ then _ else _) = _
              rw [if_pos (by omega)]
          rw [e4]
          rfl
        · have hb : ¬ mostV (accOf sh cs (cs.take i)) < ((gain cs.length (cs.filter fun x => (reached sh.parents [a]).getD x false).length : Nat) : Int) := fun z => hb (decide_eq_true z)
          refine ⟨some (nv a), some (.ref p5), some (.int (cs.filter fun x => (reached sh.parents [a]).getD x false).length), some (.int (gain cs.length (cs.filter fun x => (reached sh.parents [a]).getD x false).length)), ?_, sD⟩
          have e4 : accOf sh cs (cs.take (i + 1)) = accOf sh cs (cs.take i) := by
            rw [e3]
            cases ea : accOf sh cs (cs.take i) with
            | none =>
              rw [ea] at hb
              exact absurd (show (-1 : Int) < _ by omega) hb
            | some y =>
              rw [ea] at hb
              have hb : ¬ ((y.2 : Nat) : Int) < _ := hb
              show (if y.2 < _ then _ else _) = _
              rw [if_neg (by omega)]
          rw [e4]
          rfl
    · rintro σ H3 ⟨v4, v5, v6, v7, rfl, s3⟩
      refine ⟨_, rfl, ?_⟩
      rw [nvs_len, List.length_reverse, List.take_length, acc_halve W hcs]
      exact k H3 s3
end
end Pr
end
section
set_option Elab.async false
set_option linter.all false
set_option maxRecDepth 100000
set_option maxHeartbeats 4000000
namespace Pr
open PySem PySem.Spec PyProof.Rows L2 Mb Mm
abbrev cKeep : Stmt := inClass (top 1) 15
/-! ### mathematics: places -/
def keepL (P : List (List Nat)) (starts : List Nat) : List Nat := (List.range P.length).filter fun j => (reached P starts).getD j false
def newN (P : List (List Nat)) (starts : List Nat) (i : Nat) : List (Option Nat) := (List.range P.length).map fun j => if j < i ∧ (reached P starts).getD j false = true then some (placeIn (keepL P starts) j) else none
theorem newN_length (P : List (List Nat)) (starts : List Nat) (i : Nat) : (newN P starts i).length = P.length := by
  unfold newN
  rw [List.length_map, List.length_range]
theorem newN_at (P : List (List Nat)) (starts : List Nat) (i : Nat) {j : Nat} (h : j < P.length) : (newN P starts i).getD j none = if j < i ∧ (reached P starts).getD j false = true then some (placeIn (keepL P starts) j) else none := by
  unfold newN
  rw [List.getD_eq_getElem?_getD, List.getElem?_map, List.getElem?_range h]
  rfl
theorem newN_zero (P : List (List Nat)) (starts : List Nat) : newN P starts 0 = List.replicate P.length none := by
  unfold newN
  refine List.ext_getElem (by simp) fun i h1 h2 => ?_
  rw [List.getElem_map, List.getElem_replicate, if_neg (by omega)]
theorem newN_pos {P : List (List Nat)} {starts : List Nat} {i : Nat} (h : (reached P starts).getD i false = true) : (newN P starts i).set i (some (placeIn (keepL P starts) i)) = newN P starts (i + 1) := by
  unfold newN
  refine List.ext_getElem (by simp) fun j h1 h2 => ?_
  rw [List.getElem_set]
  rw [List.getElem_map, List.getElem_map, List.getElem_range]
  by_cases e : i = j
  · subst e
    rw [if_pos rfl, if_pos ⟨by omega, h⟩]
  · rw [if_neg e]
    by_cases q : j < i ∧ (reached P starts).getD j false = true
    · rw [if_pos q, if_pos ⟨by omega, q.2⟩]
    · rw [if_neg q, if_neg (fun z => q ⟨by omega, z.2⟩)]
theorem newN_neg {P : List (List Nat)} {starts : List Nat} {i : Nat} (h : ¬ (reached P starts).getD i false = true) : newN P starts i = newN P starts (i + 1) := by
  unfold newN
  refine List.map_congr_left fun j _ => ?_
  by_cases q : j < i ∧ (reached P starts).getD j false = true
  · rw [if_pos q, if_pos ⟨by omega, q.2⟩]
  · rw [if_neg q, if_neg (fun z => ?_)]
    by_cases e : j = i
    · subst e
      exact h z.2
    · exact q ⟨by omega, z.2⟩
theorem filt_pos {p : Nat → Bool} {i : Nat} (h : p i = true) : (List.range (i + 1)).filter p = (List.range i).filter p ++ [i] := by
  rw [List.range_succ, List.filter_append]
  simp [h]
theorem filt_neg {p : Nat → Bool} {i : Nat} (h : ¬ p i = true) : (List.range (i + 1)).filter p = (List.range i).filter p := by
  rw [List.range_succ, List.filter_append]
  simp [h]
theorem range_split {i n : Nat} (h : i ≤ n) : ∃ r, List.range n = List.range i ++ r := by
  refine ⟨(List.range n).drop i, ?_⟩
  have h1 := List.take_append_drop i (List.range n)
  have h2 : (List.range n).take i = List.range i := by
    rw [List.take_range, Nat.min_eq_left h]
  rw [h2] at h1
  exact h1.symm
theorem place_len {p : Nat → Bool} {i n : Nat} (hi : i < n) (h : p i = true) : placeIn ((List.range n).filter p) i = ((List.range i).filter p).length := by
  refine place_of (filter_sorted (range_sorted n) p) ?_
  obtain ⟨r, hr⟩ := range_split (show i + 1 ≤ n from hi)
  rw [hr, List.filter_append, filt_pos h, List.append_assoc, List.getElem?_append_right (Nat.le_refl _), Nat.sub_self]
  rfl
def keepP (P : List (List Nat)) (starts : List Nat) (i : Nat) : List (List Nat) := ((List.range i).filter fun j => (reached P starts).getD j false).map fun c => (P.getD c []).map (placeIn (keepL P starts))
/-! ### promise -/
def spKeep (CC : Addr) (K : PySem.W.Frag) : Sp := fun vs H Q _ => ∃ (c a : Addr) (P : List (List Nat)) (starts : List Nat), vs = [.ref c, .ref a] ∧ CAt CC H c P ∧ SqL K H a (nvs starts) ∧ (∀ x ∈ starts, x < P.length) ∧ Gd P ∧
  ∀ (H' : Hp) (p l' : Addr) (rows' : List Addr), CAtL CC H' c l' rows' (keepP P starts P.length) → H l' = none → (∀ r ∈ rows', H r = none) → But c H H' → H p = none → H' p = some (.lst ((newN P starts P.length).map ov)) → Q (.ref p) H'
section
variable {P : Program} {w : World} {K : PySem.W.Frag} {mg : Str → Option Value} {base : Heap} {CC CM CR CH f : Addr} {fd : FuncData}
theorem scKeep : FnScope ["self", "starts", "seen", "new_numbers", "kept", "commit", "parent"] ["self", "starts"] (defScope cKeep) := ⟨rfl, rfl, rfl, by decide +kernel, rfl, by decide +kernel, by decide +kernel⟩
theorem bkKeep : BlkOk ["self", "starts", "seen", "new_numbers", "kept", "commit", "parent"] (defScope cKeep) { kind := .function, names := [(".0", .local), ("parent", .local), ("new_numbers", .free)], isGenerator := false, isCoroutine := false } [("parent", 6)] := blkOk_by (by decide +kernel)
theorem ok_keep (F : Fun K "keep_reached" "Commits.keep_reached" cKeep f fd) (T : Txt K mg CC CM CR CH) (MR : Mt P w K mg base CC 1 "reached" ["self", "starts"] (spReached CC K)) : FnOk P w K mg base CX0 2 f fd ["self", "starts"] (spKeep CC K) := by
  refine F.ok scKeep (fun vs H Q E h => ?_) (fun cdv A outer s H vs Q E hr h => ?_)
  · obtain ⟨c, a, Ps, starts, rfl, _⟩ := h
    rfl
  · obtain ⟨c, a, Ps, starts, rfl, ⟨l, rows, C⟩, ha, hst, G, k⟩ := h
    obtain ⟨dc, ho⟩ := C.obj
    have h128 := G.few
    have lw := G.low
    have nd := scKeep.nd
    refine ⟨_, pss_cons (ps_set (i := 2) nd rfl (Or.inl rfl) (pe_mt MR T.cC hr (pv 0) (pa_cons (pv 1) pa_nil)))
      (pss_cons (ps_set (i := 3) nd rfl (Or.inr rfl) (pe_op op_rep (pe_lst (pa_cons pe_non pa_nil)) (pe_callB call_len_seq (by rfl) T.len bt_len (pa_cons (pe_fld (pv 0) rfl) pa_nil))))
      (pss_cons (ps_set (i := 4) nd rfl (Or.inl rfl) (pe_lst pa_nil))
      (pss_cons (ps_for PassesOwn.never rfl (pi_range1 rfl T.range (pa_cons (pe_callB call_len_seq (by rfl) T.len bt_len (pa_cons (pe_fld (pv 0) rfl) pa_nil)) pa_nil)) (pg_name (i := 5) nd rfl (Or.inl rfl))
        (pss_one (ps_if (pt_val (pe_ix ix_list (pv 2) (pv 5) (fun _ _ => rfl)))
          (pss_cons (ps_asg (pe_callB call_len_seq (by rfl) T.len bt_len (pa_cons (pv 4) pa_nil)) (pg_sub (pv 3) (pv 5) set_list))
          (pss_one (ps_expr (pe_bm PySem.F.plainAttrs_list PySem.F.slot_list_append PySem.F.type_list_append mt_append (pv 4)
            (pa_cons (pe_lc rfl nd (pi_list (pe_ix ix_list (pe_fld (pv 0) rfl) (pv 5) (fun _ _ => rfl))) bkKeep (fun _ _ _ _ _ => pg_name (i := 6) nd rfl (Or.inl rfl)) (fun _ _ _ _ _ => pts_nil) (fun _ _ _ _ _ => pe_ix (ixK (K := K)) (pv 3) (pv 6) (fun _ _ => rfl))) pa_nil))))) pss_nil)))
      (pss_cons (ps_fld (pv 0) (pv 4) rfl)
      (pss_one (ps_ret (pv 3))))))), ?_⟩
    refine ⟨_, rfl, c, dc, _, rfl, ho, look1_no _ (by decide +kernel), _, rfl, ?_⟩
    refine ⟨c, a, Ps, starts, rfl, ⟨l, rows, C⟩, ha, hst, G.few, G.low, fun H1 p1 s1 hp1 h1 => ?_⟩
    refine ⟨(by show 1 ≤ sizeLine; decide), fun q hq => ?_⟩
    have s2 : Same H (upd H1 q (.lst [.non])) := s1.trans (same_new hq)
    have C2 := C.same s2
    obtain ⟨dc2, ho2⟩ := C2.obj
    refine ⟨_, rfl, c, CC, dc2, _, _, rfl, ho2, T.cC, T.nP, look1 _ _, l, _, rfl, .inl (SqL.of C2.lst), ?_⟩
    rw [List.length_map, C.rws.len]
    refine ⟨q, _, _, rfl, rfl, upd_same, by omega, by omega, by simp [sizeLine_eq]; omega, fun p hp => ?_⟩
    have e0 : (List.replicate (Ps.length : Int).toNat [V.non]).flatten = (newN Ps starts 0).map ov := by
      rw [rep_flat, newN_zero, List.map_replicate]
      rfl
    rw [e0]
    have hp0 : H p = none := s2.free hp
    have s3 := s2.trans (same_new hp (o := .lst ((newN Ps starts 0).map ov)))
    have h13 : (upd (upd H1 q (.lst [.non])) p (.lst ((newN Ps starts 0).map ov))) p1 = some (.lst ((reached Ps starts).map V.bl)) := same_new hp _ _ (same_new hq _ _ h1)
    refine ⟨Nat.zero_le _, fun u hu => ?_⟩
    have hu0 : H u = none := s3.free hu
    have hpu : p ≠ u := ne_of_none upd_same hu
    have h1u : p1 ≠ u := ne_of_none h13 hu
    have h1p : p1 ≠ p := by
      intro z
      have z1 := same_new hq (o := .lst [.non]) _ _ h1
      rw [z, hp] at z1
      cases z1
    have s4 := s3.trans (same_new hu (o := .lst []))
    have C4 := C.same s4
    obtain ⟨dc4, ho4⟩ := C4.obj
    refine ⟨_, rfl, c, CC, dc4, _, _, rfl, ho4, T.cC, T.nP, look1 _ _, l, _, rfl, .inl (SqL.of C4.lst), ?_⟩
    rw [List.length_map, C.rws.len]
    refine ⟨_, rfl, by omega, by omega, ?_⟩
    have en : ((Ps.length : Nat) : Int).toNat = Ps.length := by omega
    rw [en]
    refine for_range (fun i σ H' => ∃ (v5 : Option V) (ks : List Addr), σ = [some (.ref c), some (.ref a), some (.ref p1), some (.ref p), some (.ref u), v5, none] ∧ Same H H' ∧ H' p1 = some (.lst ((reached Ps starts).map V.bl)) ∧
        H' p = some (.lst ((newN Ps starts i).map ov)) ∧ H' u = some (.lst (ks.map V.ref)) ∧ Rows H' ks (keepP Ps starts i) ∧ (∀ x ∈ ks, H x = none ∧ x ≠ u ∧ x ≠ p))
      ⟨none, [], rfl, s4, by rw [upd_ne h1u]; exact h13, by rw [upd_ne hpu, upd_same], by rw [upd_same]; rfl, ⟨rfl, fun i r row h _ => by simp at h⟩, fun x hx => by simp at hx⟩ ?_ ?_
    · rintro i σ H5 hi ⟨v5, ks, rfl, s5, h51, h5p, h5u, R5, hks⟩
      have ei : (0 : Int) + ((i : Nat) : Int) = ((i : Nat) : Int) := by omega
      rw [ei]
      refine ⟨_, rfl, _, rfl, p1, _, _, _, rfl, rfl, SqL.of h51, atI_nat (bls_at (by rw [reached_length]; exact hi)), _, rfl, ?_⟩
      refine ite2 (fun hb => ?_) (fun hb => ?_)
      · have hkl : ks.length = ((List.range i).filter fun j => (reached Ps starts).getD j false).length := by
          rw [R5.len, keepP, List.length_map]
        have hpl : placeIn (keepL Ps starts) i = ks.length := by
          rw [hkl]
          exact place_len hi hb
        refine ⟨_, rfl, u, _, rfl, .inl (SqL.of h5u), ?_⟩
        rw [List.length_map]
        refine ⟨_, rfl, _, rfl, p, _, _, i, rfl, rfl, h5p, ixN_nat (by rw [List.length_map, newN_length]; exact hi), ?_⟩
        have e1 : ((newN Ps starts i).map ov).set i (nv ks.length) = (newN Ps starts (i + 1)).map ov := by
          rw [← newN_pos hb, List.map_set, hpl]
          rfl
        rw [e1]
        have s6 : Same H (upd H5 p (.lst ((newN Ps starts (i + 1)).map ov))) := same_write hp0 s5
        have C6 := C.same s6
        obtain ⟨dc6, ho6⟩ := C6.obj
        obtain ⟨r, hr1, hr2⟩ := C6.rws.row hi
        have h6u : (upd H5 p (.lst ((newN Ps starts (i + 1)).map ov))) u = some (.lst (ks.map V.ref)) := by
          rw [upd_ne (Ne.symm hpu)]
          exact h5u
        refine ⟨_, rfl, .inl ⟨rfl, _, SqL.of h6u⟩, _, rfl, c, CC, dc6, _, _, rfl, ho6, T.cC, T.nP, look1 _ _, _, rfl, l, _, _, _, rfl, rfl, SqL.of C6.lst, atI_nat (refs_at hr1), r, rfl, ⟨_, SqL.of hr2⟩, fun D hD => ?_⟩
        have pD : p ≠ D := ne_of_none upd_same hD
        have uD : u ≠ D := ne_of_none h6u hD
        have h61 : (upd H5 p (.lst ((newN Ps starts (i + 1)).map ov))) p1 = some (.lst ((reached Ps starts).map V.bl)) := by
          rw [upd_ne h1p]
          exact h51
        have D1 : p1 ≠ D := ne_of_none h61 hD
        have clo : ∀ z ∈ Ps.getD i [], z < i ∧ (reached Ps starts).getD z false = true := fun z hz => by
          refine ⟨lw _ _ hz, ?_⟩
          obtain ⟨b, hb1, hb2⟩ := (reached_iff lw hst i).mp hb
          exact (reached_iff lw hst z).mpr ⟨b, hb1, .snoc hb2 (Nat.zero_le _) hz⟩
        refine lc_go (fun v => match v with | .int z => some (nv (placeIn (keepL Ps starts) z.toNat)) | _ => none) (SqL.of hr2) hD (by rw [nvs_len, sizeLine_eq]; have := G.len i; omega) (fun x acc hx => ?_) ?_
        · obtain ⟨z, hz, rfl⟩ := List.mem_map.mp hx
          obtain ⟨hz1, hz2⟩ := clo z hz
          refine ⟨true, fun R r => r, ?_⟩
          rw [if_pos rfl]
          refine ⟨nv (placeIn (keepL Ps starts) z), rfl, fun R r => ?_⟩
          have ez : ((newN Ps starts (i + 1)).map ov)[z]? = some (nv (placeIn (keepL Ps starts) z)) := by
            rw [ovs_at (by rw [newN_length]; omega), newN_at _ _ _ (by omega), if_pos ⟨by omega, hz2⟩]
            rfl
          exact ⟨_, rfl, _, rfl, p, _, _, _, rfl, rfl, SqL.of (by rw [upd_ne pD, upd_same]), atI_nat ez, r⟩
        · have e2 : (nvs (Ps.getD i [])).filterMap (fun v => match v with | .int z => some (nv (placeIn (keepL Ps starts) z.toNat)) | _ => none) = nvs ((Ps.getD i []).map (placeIn (keepL Ps starts))) := by
            unfold nvs
            rw [List.map_map]
            exact filterMap_some nv _ _ _ fun x _ => rfl
          rw [e2]
          refine ⟨u, _, _, rfl, rfl, by rw [upd_ne uD]; exact h6u, ?_, ?_⟩
          · rw [List.length_map, hkl, sizeLine_eq]
            have := List.length_filter_le (fun j => (reached Ps starts).getD j false) (List.range i)
            rw [List.length_range] at this
            omega
          have hD0 : H D = none := s6.free hD
          have Du : D ≠ u := Ne.symm uD
          have er : (ks.map V.ref ++ [V.ref D]) = (ks ++ [D]).map V.ref := by simp
          rw [er]
          have ek : keepP Ps starts (i + 1) = keepP Ps starts i ++ [(Ps.getD i []).map (placeIn (keepL Ps starts))] := by
            unfold keepP
            rw [filt_pos hb, List.map_append]
            rfl
          refine ⟨_, ks ++ [D], rfl, same_write hu0 (s6.trans (same_new hD)), ?_, ?_, upd_same, ?_, ?_⟩
          · rw [upd_ne h1u, upd_ne D1]
            exact h61
          · rw [upd_ne hpu, upd_ne pD, upd_same]
          · rw [ek]
            refine ⟨by simp [R5.len], fun j r' row h1 h2 => ?_⟩
            rcases Nat.lt_trichotomy j ks.length with hj | hj | hj
            · rw [List.getElem?_append_left hj] at h1
              rw [List.getElem?_append_left (by rw [← R5.len]; exact hj)] at h2
              have hq := R5.at_ j r' row h1 h2
              obtain ⟨k1, k2, k3⟩ := hks r' (List.mem_of_getElem? h1)
              have h6q : (upd H5 p (.lst ((newN Ps starts (i + 1)).map ov))) r' = some (.lst (nvs row)) := by
                rw [upd_ne k3]
                exact hq
              rw [upd_ne k2, upd_ne (ne_of_none h6q hD)]
              exact h6q
            · subst hj
              rw [List.getElem?_concat_length] at h1
              rw [R5.len, List.getElem?_concat_length] at h2
              cases h1
              cases h2
              rw [upd_ne Du, upd_same]
            · rw [List.getElem?_eq_none (by simp; omega)] at h1
              cases h1
          · intro x hx
            rcases List.mem_append.mp hx with hx | hx
            · exact hks x hx
            · have e : x = D := by simpa using hx
              subst e
              exact ⟨hD0, Du, Ne.symm pD⟩
      · refine ⟨_, ks, rfl, s5, h51, ?_, h5u, ?_, hks⟩
        · rw [← newN_neg hb]
          exact h5p
        · have ek : keepP Ps starts (i + 1) = keepP Ps starts i := by
            unfold keepP
            rw [filt_neg (p := fun j => (reached Ps starts).getD j false) hb]
          rw [ek]
          exact R5
    · rintro σ H5 ⟨v5, ks, rfl, s5, h51, h5p, h5u, R5, hks⟩
      have C5 := C.same s5
      obtain ⟨dc5, ho5⟩ := C5.obj
      refine ⟨_, rfl, _, rfl, c, CC, dc5, _, rfl, ho5, T.cC, T.nP, (by show 1 < 1000; decide), ?_⟩
      rw [put1]
      have hcu : u ≠ c := ne_of h5u ho5 (by intro z; cases z)
      have hcp : p ≠ c := ne_of h5p ho5 (by intro z; cases z)
      have hkc : ∀ x ∈ ks, x ≠ c := fun x hx z => by
        have := (hks x hx).1
        rw [z, ho] at this
        cases this
      refine ⟨_, rfl, ?_⟩
      refine k _ p u ks ⟨⟨dc5, upd_same⟩, by rw [upd_ne hcu]; exact h5u, R5.keep fun r hr o e => by rw [upd_ne (hkc r hr)]; exact e, fun z => (hks u z).2.1 rfl⟩ hu0 (fun r hr => (hks r hr).1) (fun b o e hb => ?_) hp0 (by rw [upd_ne hcp]; exact h5p)
      rw [upd_ne hb]
      exact s5 b o e
end
end Pr
end
section
set_option Elab.async false
set_option linter.all false
set_option maxRecDepth 100000
set_option maxHeartbeats 4000000
namespace Pr
open PySem PySem.Spec PyProof.Rows L2 Mb Mm
abbrev mI : Stmt := inClass (top 4) 0
abbrev mTarget : Stmt := inClass (top 4) 1
abbrev mPoint : Stmt := inClass (top 4) 2
abbrev mMarked : Stmt := inClass (top 4) 3
abbrev mRenum : Stmt := inClass (top 4) 4
abbrev rI' : Stmt := inClass (top 22) 0
abbrev rEnd : Stmt := inClass (top 22) 1
abbrev rNum : Stmt := inClass (top 22) 2
abbrev rRow : Stmt := inClass (top 22) 3
abbrev hI : Stmt := inClass (top 23) 0
/-! ### promises -/
def spMI (CM : Addr) : Sp := fun vs H Q _ => ∃ (p dx : Addr), vs = [.ref p] ∧ H p = some (.ins CM dx []) ∧ ∀ (H' : Hp) (t : Addr), MAtL CM H' p t new.marks → H t = none → But p H H' → Q .non H'
def spTarget (CM : Addr) : Sp := fun vs H Q _ => ∃ (m : Addr) (ms : List (Option Nat)) (i : Nat), vs = [.ref m, nv i] ∧ MAt CM H m ms ∧ i < ms.length ∧ Q (ov (ms.getD i none)) H
def spPoint (CM : Addr) : Sp := fun vs H Q _ => ∃ (m t : Addr) (ms : List (Option Nat)) (i c : Nat), vs = [.ref m, nv i, nv c] ∧ MAtL CM H m t ms ∧ i < ms.length ∧ Q .non (upd H t (.lst ((ms.set i (some c)).map ov)))
def spMarked (CM : Addr) : Sp := fun vs H Q _ => ∃ (m : Addr) (ms : List (Option Nat)), vs = [.ref m] ∧ MAt CM H m ms ∧ ms.length ≤ 64 ∧
  ∀ (H' : Hp) (p : Addr), Same H H' → H p = none → H' p = some (.lst (nvs (ms.filterMap id))) → Q (.ref p) H'
def spRenum (CM : Addr) (K : PySem.W.Frag) : Sp := fun vs H Q _ => ∃ (m a : Addr) (ms news : List (Option Nat)), vs = [.ref m, .ref a] ∧ MAt CM H m ms ∧ ms.length ≤ 64 ∧ SqL K H a (news.map ov) ∧ (∀ c, some c ∈ ms → c < news.length) ∧
  ∀ (H' : Hp) (t : Addr), MAtL CM H' m t (ms.map fun x => x.bind fun c => news.getD c none) → H t = none → But m H H' → Q .non H'
def spRI (CR : Addr) : Sp := fun vs H Q _ => ∃ (p dx a : Addr), vs = [.ref p, .ref a] ∧ H p = some (.ins CR dx []) ∧ ∀ (H' : Hp), RAt CR H' p a 0 → But p H H' → Q .non H'
def spEnd (CR : Addr) (K : PySem.W.Frag) : Sp := fun vs H Q _ => ∃ (r a : Addr) (i : Nat) (ns : List Int), vs = [.ref r] ∧ RAt CR H r a i ∧ SqL K H a (ns.map V.int) ∧ Q (.bl (decide (ns.length ≤ i))) H
def spNum (CR : Addr) (K : PySem.W.Frag) : Sp := fun vs H Q _ => ∃ (r a : Addr) (i : Nat) (ns : List Int) (z : Int), vs = [.ref r] ∧ RAt CR H r a i ∧ SqL K H a (ns.map V.int) ∧ ns[i]? = some z ∧
  ∀ (H' : Hp), RAt CR H' r a (i + 1) → But r H H' → Q (.int z) H'
def spRow (CR : Addr) (K : PySem.W.Frag) : Sp := fun vs H Q _ => ∃ (r a : Addr) (i : Nat) (ns x t : List Int), vs = [.ref r] ∧ RAt CR H r a i ∧ SqL K H a (ns.map V.int) ∧ ns.drop i = (x.length : Int) :: (x ++ t) ∧
  ∀ (H' : Hp) (p : Addr), RAt CR H' r a (i + 1 + x.length) → But r H H' → H p = none → H' p = some (.lst (x.map V.int)) → Q (.ref p) H'
structure HistAt (CC CM CH : Addr) (H : Hp) (h c m l t : Addr) (rows : List Addr) (s : Hist) : Prop where
  obj : ∃ dh, H h = some (.ins CH dh (f2 "commits" (.ref c) "marks" (.ref m)))
  cc : CAtL CC H c l rows s.parents
  mm : MAtL CM H m t s.marks
  tl : t ≠ l
  tr : t ∉ rows
def spHI (CC CM CH : Addr) : Sp := fun vs H Q _ => ∃ (h dh : Addr), vs = [.ref h] ∧ H h = some (.ins CH dh []) ∧
  ∀ (H' : Hp) (c m l t : Addr), HistAt CC CM CH H' h c m l t [] new → (∀ x ∈ [c, m, l, t], H x = none) → But h H H' → Q .non H'
theorem seq_but {K : PySem.W.Frag} {H H' : Hp} {a r C d : Addr} {fs : List (Str × V)} {xs : List V} (h : SqL K H a xs) (hr : H r = some (.ins C d fs)) (b : But r H H') : SqL K H' a xs := by
  rcases h with (h | ⟨o, h⟩) | h
  · exact .inl (.inl (b _ _ h (ne_of h hr (by intro z; cases z))))
  · exact .inl (.inr ⟨o, b _ _ h (ne_of h hr (by intro z; cases z))⟩)
  · exact .inr h
theorem marks_fm : ∀ ms : List (Option Nat), (ms.map ov).filterMap (fun v => if v = .non then none else some v) = nvs (ms.filterMap id)
  | [] => rfl
  | none :: r => by
    rw [List.map_cons, List.filterMap_cons, List.filterMap_cons]
    exact marks_fm r
  | some n :: r => by
    rw [List.map_cons, List.filterMap_cons, List.filterMap_cons]
    exact congrArg (List.cons (nv n)) (marks_fm r)
theorem cut_row {ns x t : List Int} {i : Nat} (h : ns.drop i = (x.length : Int) :: (x ++ t)) : cutV (ns.map V.int) (some ((i + 1 : Nat) : Int)) (some ((i + 1 + x.length : Nat) : Int)) = x.map V.int := by
  have h1 : ns.drop (i + 1) = x ++ t := by
    rw [← List.drop_drop, h]
    rfl
  have hlen : i + 1 + x.length ≤ ns.length := by
    have := congrArg List.length h
    rw [List.length_drop, List.length_cons, List.length_append] at this
    omega
  unfold cutV
  rw [HT.sIx_nat, HT.sIx_nat, List.length_map, Nat.min_eq_left hlen, Nat.min_eq_left (show i + 1 ≤ ns.length by omega), ← List.map_drop, h1, ← List.map_take]
  congr 1
  rw [show i + 1 + x.length - (i + 1) = x.length by omega]
  simp
section
variable {P : Program} {w : World} {K : PySem.W.Frag} {mg : Str → Option Value} {base : Heap} {CC CM CR CH f : Addr} {fd : FuncData}
theorem scMI : FnScope ["self"] ["self"] (defScope mI) := ⟨rfl, rfl, rfl, by decide +kernel, rfl, by decide +kernel, by decide +kernel⟩
theorem ok_mI (F : Fun K "__init__" "Marks.__init__" mI f fd) (T : Txt K mg CC CM CR CH) : FnOk P w K mg base CX0 1 f fd ["self"] (spMI CM) := by
  refine F.ok scMI (fun vs H Q E h => ?_) (fun cdv A outer s H vs Q E hr h => ?_)
  · obtain ⟨p, dx, rfl, _⟩ := h
    rfl
  · obtain ⟨p, dx, rfl, hp, k⟩ := h
    obtain ⟨tk, ht⟩ := T.num ("HOW_MANY_MARKS", 64) (by simp)
    refine ⟨_, pss_one (ps_fld (pv 0) (pe_op op_rep (pe_lst (pa_cons pe_non pa_nil)) (pe_glob (v := .int 64) (by rfl) ht ⟨tk, rfl⟩)) rfl), ?_⟩
    refine ⟨(by show 1 ≤ sizeLine; decide), fun q hq => ?_⟩
    refine ⟨q, _, _, rfl, rfl, upd_same, by decide, by decide, by decide, fun t ht' => ?_⟩
    have ht0 : H t = none := (same_new hq).free ht'
    have hpt : p ≠ t := ne_of_none hp ht0
    have e0 : (List.replicate (64 : Int).toNat [V.non]).flatten = new.marks.map ov := by rfl
    rw [e0]
    have s1 := (same_new hq (o := .lst [.non])).trans (same_new ht' (o := .lst (new.marks.map ov)))
    refine ⟨_, rfl, p, CM, dx, [], rfl, s1 _ _ hp, T.cM, T.nT, (by show 0 < 1000; decide), ?_⟩
    refine k _ t ⟨⟨dx, upd_same⟩, by rw [upd_ne (Ne.symm hpt), upd_same]⟩ ht0 fun b o e hb => ?_
    rw [upd_ne hb]
    exact s1 b o e
theorem scTarget : FnScope ["self", "mark"] ["self", "mark"] (defScope mTarget) := ⟨rfl, rfl, rfl, by decide +kernel, rfl, by decide +kernel, by decide +kernel⟩
theorem ok_target (F : Fun K "target_of" "Marks.target_of" mTarget f fd) (T : Txt K mg CC CM CR CH) : FnOk P w K mg base CX0 1 f fd ["self", "mark"] (spTarget CM) := by
  refine F.ok scTarget (fun vs H Q E h => ?_) (fun cdv A outer s H vs Q E hr h => ?_)
  · obtain ⟨m, ms, i, rfl, _⟩ := h
    rfl
  · obtain ⟨m, ms, i, rfl, ⟨t, M⟩, hi, k⟩ := h
    obtain ⟨dm, ho⟩ := M.obj
    refine ⟨_, pss_one (ps_ret (pe_ix ix_list (pe_fld (pv 0) rfl) (pv 1) (fun _ _ => rfl))), ?_⟩
    exact ⟨_, rfl, m, CM, dm, _, _, rfl, ho, T.cM, T.nT, look1 _ _, _, rfl, t, _, _, _, rfl, rfl, SqL.of M.lst, atI_nat (ovs_at hi), k⟩
theorem scPoint : FnScope ["self", "mark", "commit"] ["self", "mark", "commit"] (defScope mPoint) := ⟨rfl, rfl, rfl, by decide +kernel, rfl, by decide +kernel, by decide +kernel⟩
theorem ok_point (F : Fun K "point" "Marks.point" mPoint f fd) (T : Txt K mg CC CM CR CH) : FnOk P w K mg base CX0 1 f fd ["self", "mark", "commit"] (spPoint CM) := by
  refine F.ok scPoint (fun vs H Q E h => ?_) (fun cdv A outer s H vs Q E hr h => ?_)
  · obtain ⟨m, t, ms, i, c, rfl, _⟩ := h
    rfl
  · obtain ⟨m, t, ms, i, c, rfl, M, hi, k⟩ := h
    obtain ⟨dm, ho⟩ := M.obj
    refine ⟨_, pss_one (ps_asg (pv 2) (pg_sub (pe_fld (pv 0) rfl) (pv 1) set_list)), ?_⟩
    refine ⟨_, rfl, _, rfl, m, CM, dm, _, _, rfl, ho, T.cM, T.nT, look1 _ _, _, rfl, t, _, _, i, rfl, rfl, M.lst, ixN_nat (by rw [List.length_map]; exact hi), ?_⟩
    rw [List.map_set] at k
    exact k
theorem scMarked : FnScope ["self", "target"] ["self"] (defScope mMarked) := ⟨rfl, rfl, rfl, by decide +kernel, rfl, by decide +kernel, by decide +kernel⟩
theorem bkMarked : BlkOk ["self", "target"] (defScope mMarked) { kind := .function, names := [(".0", .local), ("target", .local)], isGenerator := false, isCoroutine := false } [("target", 1)] := blkOk_by (by decide +kernel)
theorem ok_marked (F : Fun K "marked_commits" "Marks.marked_commits" mMarked f fd) (T : Txt K mg CC CM CR CH) : FnOk P w K mg base CX0 1 f fd ["self"] (spMarked CM) := by
  refine F.ok scMarked (fun vs H Q E h => ?_) (fun cdv A outer s H vs Q E hr h => ?_)
  · obtain ⟨m, ms, rfl, _⟩ := h
    rfl
  · obtain ⟨m, ms, rfl, ⟨t, M⟩, h64, k⟩ := h
    obtain ⟨dm, ho⟩ := M.obj
    have nd := scMarked.nd
    refine ⟨_, pss_one (ps_ret (pe_lc rfl nd (pi_list (pe_fld (pv 0) rfl)) bkMarked (fun _ _ _ _ _ => pg_name (i := 1) nd rfl (Or.inl rfl)) (fun _ _ _ _ _ => pts_one (pt_cmp (pc_notN (pv 1)))) (fun _ _ _ _ _ => pv 1))), ?_⟩
    refine ⟨_, rfl, m, CM, dm, _, _, rfl, ho, T.cM, T.nT, look1 _ _, t, rfl, ⟨_, SqL.of M.lst⟩, fun D hD => ?_⟩
    refine lc_go (fun v => if v = .non then none else some v) (SqL.of M.lst) hD (by rw [List.length_map, sizeLine_eq]; omega) (fun x acc hx => ?_) ?_
    · refine ⟨!decide (x = .non), fun R r => ⟨_, rfl, _, rfl, r⟩, ?_⟩
      refine ite2 (fun hb => ?_) (fun hb => ?_)
      · refine ⟨x, if_neg (fun z => ?_), fun R r => ⟨_, rfl, r⟩⟩
        rw [decide_eq_true z] at hb
        cases hb
      · refine if_pos ?_
        cases e : decide (x = V.non) with
        | true => exact of_decide_eq_true e
        | false =>
          rw [e] at hb
          exact absurd rfl hb
    · refine k _ D (same_new hD) hD ?_
      rw [upd_same]
      refine congrArg (fun z => some (HO.lst z)) ?_
      exact marks_fm ms
theorem scRenum : FnScope ["self", "new_numbers", "target"] ["self", "new_numbers"] (defScope mRenum) := ⟨rfl, rfl, rfl, by decide +kernel, rfl, by decide +kernel, by decide +kernel⟩
theorem bkRenum : BlkOk ["self", "new_numbers", "target"] (defScope mRenum) { kind := .function, names := [(".0", .local), ("target", .local), ("new_numbers", .free)], isGenerator := false, isCoroutine := false } [("target", 2)] := blkOk_by (by decide +kernel)
theorem ok_renum (F : Fun K "renumber" "Marks.renumber" mRenum f fd) (T : Txt K mg CC CM CR CH) : FnOk P w K mg base CX0 1 f fd ["self", "new_numbers"] (spRenum CM K) := by
  refine F.ok scRenum (fun vs H Q E h => ?_) (fun cdv A outer s H vs Q E hr h => ?_)
  · obtain ⟨m, a, ms, news, rfl, _⟩ := h
    rfl
  · obtain ⟨m, a, ms, news, rfl, ⟨t, M⟩, h64, ha, hlt, k⟩ := h
    obtain ⟨dm, ho⟩ := M.obj
    have nd := scRenum.nd
    refine ⟨_, pss_one (ps_fld (pv 0) (pe_lc rfl nd (pi_list (pe_fld (pv 0) rfl)) bkRenum (fun _ _ _ _ _ => pg_name (i := 2) nd rfl (Or.inl rfl)) (fun _ _ _ _ _ => pts_nil)
      (fun _ _ _ _ _ => pe_ifExp (pt_cmp (pc_isN (pv 2))) pe_non (pe_ix (ixK (K := K)) (pv 1) (pv 2) (fun _ _ => rfl)))) rfl), ?_⟩
    refine ⟨_, rfl, m, CM, dm, _, _, rfl, ho, T.cM, T.nT, look1 _ _, t, rfl, ⟨_, SqL.of M.lst⟩, fun D hD => ?_⟩
    refine lc_go (fun v => match v with | .int z => some (ov (news.getD z.toNat none)) | _ => some .non) (SqL.of M.lst) hD (by rw [List.length_map, sizeLine_eq]; omega) (fun x acc hx => ?_) ?_
    · obtain ⟨z, hz, rfl⟩ := List.mem_map.mp hx
      refine ⟨true, fun R r => r, ?_⟩
      rw [if_pos rfl]
      cases z with
      | none => exact ⟨.non, rfl, fun R r => ⟨_, rfl, _, rfl, iteT r⟩⟩
      | some n =>
        refine ⟨ov (news.getD n none), rfl, fun R r => ⟨_, rfl, _, rfl, iteF ?_⟩⟩
        exact ⟨_, rfl, _, rfl, a, _, _, _, rfl, rfl, (same_new hD).seq ha, atI_nat (ovs_at (hlt n hz)), r⟩
    · have e1 : (ms.map ov).filterMap (fun v => match v with | .int z => some (ov (news.getD z.toNat none)) | _ => some .non) = (ms.map fun x => x.bind fun c => news.getD c none).map ov := by
        rw [List.map_map]
        refine filterMap_some ov _ _ _ fun x _ => ?_
        cases x with
        | none => rfl
        | some n => rfl
      rw [e1]
      have hmD : m ≠ D := ne_of_none ho hD
      refine ⟨_, rfl, m, CM, dm, _, rfl, by rw [upd_ne hmD]; exact ho, T.cM, T.nT, (by show 1 < 1000; decide), ?_⟩
      rw [put1]
      refine k _ D ⟨⟨dm, upd_same⟩, by rw [upd_ne (Ne.symm hmD), upd_same]⟩ hD fun b o e hb => ?_
      rw [upd_ne hb]
      exact same_new hD b o e
theorem scRI : FnScope ["self", "numbers"] ["self", "numbers"] (defScope rI') := ⟨rfl, rfl, rfl, by decide +kernel, rfl, by decide +kernel, by decide +kernel⟩
theorem ok_rI (F : Fun K "__init__" "Reader.__init__" rI' f fd) (T : Txt K mg CC CM CR CH) : FnOk P w K mg base CX0 1 f fd ["self", "numbers"] (spRI CR) := by
  refine F.ok scRI (fun vs H Q E h => ?_) (fun cdv A outer s H vs Q E hr h => ?_)
  · obtain ⟨p, dx, a, rfl, _⟩ := h
    rfl
  · obtain ⟨p, dx, a, rfl, hp, k⟩ := h
    refine ⟨_, pss_cons (ps_fld (pv 0) (pv 1) rfl) (pss_one (ps_fld (pv 0) pe_int rfl)), ?_⟩
    refine ⟨_, rfl, _, rfl, p, CR, dx, [], rfl, hp, T.cR, T.nN, (by show 0 < 1000; decide), ?_⟩
    refine ⟨_, rfl, p, CR, dx, _, rfl, upd_same, T.cR, T.nL, (by show 1 < 1000; decide), ?_⟩
    rw [upd_upd]
    have e : putF "place" (V.int 0) (putF "numbers" (V.ref a) []) = f2 "numbers" (.ref a) "place" (nv 0) := put12 (V.ref a) (V.int 0) (by decide +kernel)
    refine k _ ⟨dx, Eq.trans upd_same (congrArg (fun z => some (HO.ins CR dx z)) e)⟩ fun b o e hb => ?_
    rw [upd_ne hb]
    exact e
theorem scEnd : FnScope ["self"] ["self"] (defScope rEnd) := ⟨rfl, rfl, rfl, by decide +kernel, rfl, by decide +kernel, by decide +kernel⟩
theorem ok_end (F : Fun K "at_end" "Reader.at_end" rEnd f fd) (T : Txt K mg CC CM CR CH) : FnOk P w K mg base CX0 1 f fd ["self"] (spEnd CR K) := by
  refine F.ok scEnd (fun vs H Q E h => ?_) (fun cdv A outer s H vs Q E hr h => ?_)
  · obtain ⟨r, a, i, ns, rfl, _⟩ := h
    rfl
  · obtain ⟨r, a, i, ns, rfl, ⟨dr, ho⟩, ha, k⟩ := h
    refine ⟨_, pss_one (ps_ret (pe_cmpR op_ge (pe_fld (pv 0) rfl) (pe_callB call_len_seq (by rfl) T.len bt_len (pa_cons (pe_fld (pv 0) rfl) pa_nil)) (nomark _))), ?_⟩
    refine ⟨_, rfl, r, CR, dr, _, _, rfl, ho, T.cR, T.nL, look2b _ _ (by decide +kernel), _, rfl, r, CR, dr, _, _, rfl, ho, T.cR, T.nN, look2a _ _ _ _, a, _, rfl, .inl ha, _, _, rfl, rfl, ?_⟩
    have e : decide ((((ns.map V.int).length : Nat) : Int) ≤ ((i : Nat) : Int)) = decide (ns.length ≤ i) := by
      rw [List.length_map]
      by_cases h : ns.length ≤ i
      · rw [decide_eq_true h, decide_eq_true (by omega)]
      · rw [decide_eq_false h, decide_eq_false (by omega)]
    show Q (.bl (decide ((((ns.map V.int).length : Nat) : Int) ≤ ((i : Nat) : Int)))) H
    rw [e]
    exact k
theorem scNum : FnScope ["self", "number"] ["self"] (defScope rNum) := ⟨rfl, rfl, rfl, by decide +kernel, rfl, by decide +kernel, by decide +kernel⟩
theorem ok_num (F : Fun K "read_number" "Reader.read_number" rNum f fd) (T : Txt K mg CC CM CR CH) : FnOk P w K mg base CX0 1 f fd ["self"] (spNum CR K) := by
  refine F.ok scNum (fun vs H Q E h => ?_) (fun cdv A outer s H vs Q E hr h => ?_)
  · obtain ⟨r, a, i, ns, z, rfl, _⟩ := h
    rfl
  · obtain ⟨r, a, i, ns, z, rfl, ⟨dr, ho⟩, ha, hz, k⟩ := h
    have nd := scNum.nd
    refine ⟨_, pss_cons (ps_set (i := 1) nd rfl (Or.inl rfl) (pe_ix ix_list (pe_fld (pv 0) rfl) (pe_fld (pv 0) rfl) (fun _ _ => rfl))) (pss_cons (ps_fldaug (pv 0) pe_int in_add) (pss_one (ps_ret (pv 1)))), ?_⟩
    have hz' : (ns.map V.int)[i]? = some (.int z) := by
      rw [List.getElem?_map, hz]
      rfl
    refine ⟨_, rfl, r, CR, dr, _, _, rfl, ho, T.cR, T.nN, look2a _ _ _ _, _, rfl, r, CR, dr, _, _, rfl, ho, T.cR, T.nL, look2b _ _ (by decide +kernel), a, _, _, _, rfl, rfl, ha, atI_nat hz', ?_⟩
    refine ⟨_, rfl, r, CR, dr, _, _, rfl, ho, T.cR, T.nL, look2b _ _ (by decide +kernel), _, _, rfl, rfl, dr, _, ho, (by show 2 < 1000; decide), ?_⟩
    refine ⟨_, rfl, ?_⟩
    have e : putF "place" (V.int ((i : Int) + 1)) (f2 "numbers" (.ref a) "place" (nv i)) = f2 "numbers" (.ref a) "place" (nv (i + 1)) := put2 _ _ _ (by decide +kernel)
    refine k _ ⟨dr, Eq.trans upd_same (congrArg (fun z => some (HO.ins CR dr z)) e)⟩ fun b o e hb => ?_
    rw [upd_ne hb]
    exact e
theorem scRow : FnScope ["self", "length", "begin"] ["self"] (defScope rRow) := ⟨rfl, rfl, rfl, by decide +kernel, rfl, by decide +kernel, by decide +kernel⟩
theorem ok_row (F : Fun K "read_row" "Reader.read_row" rRow f fd) (T : Txt K mg CC CM CR CH) (MN : Mt P w K mg base CR 1 "read_number" ["self"] (spNum CR K)) : FnOk P w K mg base CX0 2 f fd ["self"] (spRow CR K) := by
  refine F.ok scRow (fun vs H Q E h => ?_) (fun cdv A outer s H vs Q E hr h => ?_)
  · obtain ⟨r, a, i, ns, x, t, rfl, _⟩ := h
    rfl
  · obtain ⟨r, a, i, ns, x, t, rfl, ⟨dr, ho⟩, ha, hd, k⟩ := h
    have nd := scRow.nd
    refine ⟨_, pss_cons (ps_set (i := 1) nd rfl (Or.inl rfl) (pe_mt0 MN T.cR hr (pv 0))) (pss_cons (ps_set (i := 2) nd rfl (Or.inl rfl) (pe_fld (pv 0) rfl)) (pss_cons (ps_fld (pv 0) (pe_op op_add (pv 2) (pv 1)) rfl)
      (pss_one (ps_ret (pe_slice sl_list (pe_fld (pv 0) rfl) (po_some (pv 2)) (po_some (pe_fld (pv 0) rfl))))))), ?_⟩
    refine ⟨_, rfl, r, dr, _, rfl, ho, look2_no _ _ (by decide +kernel) (by decide +kernel), ?_⟩
    have hz : ns[i]? = some (x.length : Int) := by
      have := congrArg (fun l => l[0]?) hd
      simpa using this
    refine ⟨r, a, i, ns, _, rfl, ⟨dr, ho⟩, ha, hz, fun H1 ⟨dr1, ho1⟩ b1 => ?_⟩
    refine ⟨_, rfl, r, CR, dr1, _, _, rfl, ho1, T.cR, T.nL, look2b _ _ (by decide +kernel), ?_⟩
    refine ⟨_, rfl, _, rfl, _, _, rfl, rfl, _, rfl, r, CR, dr1, _, rfl, ho1, T.cR, T.nL, (by show 2 < 1000; decide), ?_⟩
    have e : putF "place" (V.int (((i + 1 : Nat) : Int) + (x.length : Int))) (f2 "numbers" (.ref a) "place" (nv (i + 1))) = f2 "numbers" (.ref a) "place" (nv (i + 1 + x.length)) := put2 _ _ _ (by decide +kernel)
    have ho2 : (upd H1 r (.ins CR dr1 (putF "place" (V.int (((i + 1 : Nat) : Int) + (x.length : Int))) (f2 "numbers" (.ref a) "place" (nv (i + 1)))))) r = some (.ins CR dr1 (f2 "numbers" (.ref a) "place" (nv (i + 1 + x.length)))) := Eq.trans upd_same (congrArg (fun z => some (HO.ins CR dr1 z)) e)
    have b2 : But r H (upd H1 r (.ins CR dr1 (putF "place" (V.int (((i + 1 : Nat) : Int) + (x.length : Int))) (f2 "numbers" (.ref a) "place" (nv (i + 1)))))) := b1.trans (But.upd _ _ _)
    refine ⟨_, rfl, r, CR, dr1, _, _, rfl, ho2, T.cR, T.nN, look2a _ _ _ _, _, rfl, _, rfl, _, rfl, r, CR, dr1, _, _, rfl, ho2, T.cR, T.nL, look2b _ _ (by decide +kernel), _, rfl, a, _, rfl, seq_but ha ho b2, fun p hp => ?_⟩
    rw [cut_row hd]
    have hrp : r ≠ p := ne_of_none ho2 hp
    refine k _ p ⟨dr1, by rw [upd_ne hrp]; exact ho2⟩ (fun b o e hb => same_new hp _ _ (b2 b o e hb)) ?_ upd_same
    cases q : H p with
    | none => rfl
    | some o =>
      rw [b2 p o q (Ne.symm hrp)] at hp
      cases hp
theorem scHI : FnScope ["self"] ["self"] (defScope hI) := ⟨rfl, rfl, rfl, by decide +kernel, rfl, by decide +kernel, by decide +kernel⟩
theorem ok_hI (F : Fun K "__init__" "History.__init__" hI f fd) (T : Txt K mg CC CM CR CH) (MC : Mo P w K mg base CC 1 "Commits" ["self"] (spCI CC)) (MM : Mo P w K mg base CM 1 "Marks" ["self"] (spMI CM)) : FnOk P w K mg base CX0 3 f fd ["self"] (spHI CC CM CH) := by
  refine F.ok scHI (fun vs H Q E h => ?_) (fun cdv A outer s H vs Q E hr h => ?_)
  · obtain ⟨h, dh, rfl, _⟩ := h
    rfl
  · obtain ⟨h, dh, rfl, hh, k⟩ := h
    refine ⟨_, pss_cons (ps_fld (pv 0) (pe_mo0 MC hr (by rfl)) rfl) (pss_one (ps_fld (pv 0) (pe_mo0 MM hr (by rfl)) rfl)), ?_⟩
    intro c dc hc hdc hne
    have s1 : Same H (upd (upd H dc (.own c)) c (.ins CC dc [])) := fun b o e => by
      rw [upd_ne (ne_of_none e hc), upd_ne (ne_of_none e hdc)]
      exact e
    refine ⟨c, dc, rfl, upd_same, fun H1 l C1 hl b1 => ⟨rfl, ?_⟩⟩
    have hl0 : H l = none := s1.free hl
    have s2 : Same H H1 := fun b o e => b1 b o (s1 b o e) (ne_of_none e hc)
    refine ⟨_, rfl, h, CH, dh, [], rfl, s2 _ _ hh, T.cH, T.nC, (by show 0 < 1000; decide), ?_⟩
    have hch : c ≠ h := Ne.symm (ne_of_none hh hc)
    have hlh : l ≠ h := Ne.symm (ne_of_none hh hl0)
    have b3 : But h H (upd H1 h (.ins CH dh (putF "commits" (.ref c) []))) := fun b o e hb => by
      rw [upd_ne hb]
      exact s2 b o e
    intro m dm hm hdm hne2
    have fre : ∀ x, (upd H1 h (.ins CH dh (putF "commits" (.ref c) []))) x = none → H x = none := fun x hx => by
      cases q : H x with
      | none => rfl
      | some o =>
        by_cases e : x = h
        · rw [e, upd_same] at hx
          cases hx
        · rw [b3 x o q e] at hx
          cases hx
    have s4 : Same (upd H1 h (.ins CH dh (putF "commits" (.ref c) []))) (upd (upd (upd H1 h (.ins CH dh (putF "commits" (.ref c) []))) dm (.own m)) m (.ins CM dm [])) := fun b o e => by
      rw [upd_ne (ne_of_none e hm), upd_ne (ne_of_none e hdm)]
      exact e
    refine ⟨m, dm, rfl, upd_same, fun H2 t M2 ht b2 => ⟨rfl, ?_⟩⟩
    have s5 : Same (upd H1 h (.ins CH dh (putF "commits" (.ref c) []))) H2 := fun b o e => b2 b o (s4 b o e) (ne_of_none e hm)
    have ht3 := s4.free ht
    have ht0 : H t = none := fre t ht3
    have hm0 : H m = none := fre m hm
    refine ⟨_, rfl, h, CH, dh, _, rfl, s5 _ _ upd_same, T.cH, T.nM, (by show 1 < 1000; decide), ?_⟩
    have e : putF "marks" (V.ref m) (putF "commits" (V.ref c) []) = f2 "commits" (.ref c) "marks" (.ref m) := put12 (V.ref c) (V.ref m) (by decide +kernel)
    have hmh : m ≠ h := Ne.symm (ne_of_none hh hm0)
    have hth : t ≠ h := Ne.symm (ne_of_none hh ht0)
    obtain ⟨dc1, hc1⟩ := C1.obj
    obtain ⟨dm2, hm2⟩ := M2.obj
    have l3 : (upd H1 h (.ins CH dh (putF "commits" (.ref c) []))) l = some (.lst []) := by
      rw [upd_ne hlh]
      exact C1.lst
    have tl : t ≠ l := Ne.symm (ne_of_none l3 ht3)
    refine k _ c m l t ⟨⟨dh, Eq.trans upd_same (congrArg (fun z => some (HO.ins CH dh z)) e)⟩, ⟨⟨dc1, ?_⟩, ?_, ⟨rfl, fun i r row h _ => by simp at h⟩, by simp⟩, ⟨⟨dm2, by rw [upd_ne hmh]; exact hm2⟩, by rw [upd_ne hth]; exact M2.lst⟩, tl, by simp⟩ ?_ ?_
    · rw [upd_ne hch]
      exact s5 _ _ (by rw [upd_ne hch]; exact hc1)
    · rw [upd_ne hlh]
      exact s5 _ _ l3
    · intro x hx
      simp at hx
      rcases hx with rfl | rfl | rfl | rfl
      · exact hc
      · exact hm0
      · exact hl0
      · exact ht0
    · intro b o e hb
      rw [upd_ne hb]
      exact s5 _ _ (b3 b o e hb)
end
end Pr
end
section
set_option Elab.async false
set_option linter.all false
set_option maxRecDepth 100000
set_option maxHeartbeats 4000000
namespace Pr
open PySem PySem.Spec PyProof.Rows L2 Mb Mm
abbrev dAll : Stmt := top 41
abbrev dFit : Stmt := top 42
abbrev dFit2 : Stmt := top 43
abbrev dCounted : Stmt := top 44
/-! ### promises -/
def spAll (CC : Addr) (K : PySem.W.Frag) : Sp := fun vs H Q _ => ∃ (c m : Addr) (s : Hist) (as : List Nat), vs = [.ref c, .ref m] ∧ CAt CC H c s.parents ∧ SqL K H m (nvs as) ∧ as.length ≤ 30000 ∧
  ∀ (H' : Hp), Same H H' → Q (.bl (as.all s.has)) H'
def spFit (CC : Addr) (K : PySem.W.Frag) : Sp := fun vs H Q _ => ∃ (c m : Addr) (s : Hist) (as : List Nat), vs = [.ref c, .ref m] ∧ CAt CC H c s.parents ∧ SqL K H m (nvs as) ∧ as.length ≤ 30000 ∧
  ∀ (H' : Hp), Same H H' → Q (.bl (!as.isEmpty && Wqatak.known s as)) H'
def spFit2 (CC : Addr) (K : PySem.W.Frag) : Sp := fun vs H Q _ => ∃ (c m n : Addr) (s : Hist) (as bs : List Nat), vs = [.ref c, .ref m, .ref n] ∧ CAt CC H c s.parents ∧ SqL K H m (nvs as) ∧ as.length ≤ 30000 ∧ SqL K H n (nvs bs) ∧ bs.length ≤ 30000 ∧
  ∀ (H' : Hp), Same H H' → Q (.bl ((!as.isEmpty && Wqatak.known s as) && Wqatak.known s bs)) H'
def ansV (a : Wqatak.Ans) : List V := (ansOf a).map V.int
def spCounted : Sp := fun vs H Q _ => ∃ (a : Addr) (l : List Nat), vs = [.ref a] ∧ H a = some (.lst (nvs l)) ∧ l.length ≤ 1000 ∧
  ∀ (H' : Hp) (p : Addr), Same H H' → H p = none → H' p = some (.lst (ansV (Wqatak.rowAns l))) → Q (.ref p) H'
theorem ansV_row (l : List Nat) : ansV (Wqatak.rowAns l) = nv l.length :: nvs l := by
  unfold ansV ansOf Wqatak.rowAns nvs
  rw [List.map_cons, List.map_map]
  rfl
section
variable {P : Program} {w : World} {K : PySem.W.Frag} {mg : Str → Option Value} {base : Heap} {CC CM CR CH f : Addr} {fd : FuncData}
theorem scAll : FnScope ["commits", "members", "member"] ["commits", "members"] (defScope dAll) := ⟨rfl, rfl, rfl, by decide +kernel, rfl, by decide +kernel, by decide +kernel⟩
theorem bkAll : BlkOk ["commits", "members", "member"] (defScope dAll) { kind := .function, names := [(".0", .local), ("member", .local), ("commits", .free)], isGenerator := false, isCoroutine := false } [("member", 2)] := blkOk_by (by decide +kernel)
theorem ok_all (F : Fun K "all_there" "all_there" dAll f fd) (T : Txt K mg CC CM CR CH) (MT : Mt P w K mg base CC 1 "total" ["self"] (spTotal CC)) : FnOk P w K mg base CX0 2 f fd ["commits", "members"] (spAll CC K) := by
  refine F.ok scAll (fun vs H Q E h => ?_) (fun cdv A outer s H vs Q E hr h => ?_)
  · obtain ⟨c, m, sh, as, rfl, _⟩ := h
    rfl
  · obtain ⟨c, m, sh, as, rfl, C, hm, hlen, k⟩ := h
    have nd := scAll.nd
    refine ⟨_, pss_one (ps_ret (pe_callB (cr_all rfl) (by rfl) T.all bt_all (pa_cons (pe_lc rfl nd (pi_list (pv 1)) bkAll (fun _ _ _ _ _ => pg_name (i := 2) nd rfl (Or.inl rfl)) (fun _ _ _ _ _ => pts_nil)
      (fun _ _ _ _ _ => pe_cmpR op_lt (pv 2) (pe_mt0 MT T.cC hr (pv 0)) (nomark _))) pa_nil))), ?_⟩
    refine ⟨_, rfl, m, rfl, ⟨_, hm⟩, fun D hD => ?_⟩
    refine lc_go (fun v => match v with | .int z => some (.bl (decide (z < (sh.parents.length : Int)))) | _ => none) hm hD (by rw [nvs_len, sizeLine_eq]; omega) (fun x acc hx => ?_) ?_
    · obtain ⟨z, hz, rfl⟩ := List.mem_map.mp hx
      refine ⟨true, fun R r => r, ?_⟩
      rw [if_pos rfl]
      refine ⟨.bl (decide ((z : Int) < (sh.parents.length : Int))), rfl, fun R r => ?_⟩
      have C2 := C.same (same_new hD (o := .lst acc))
      obtain ⟨l, rows, C3⟩ := id C2
      obtain ⟨dc, ho⟩ := C3.obj
      exact ⟨_, rfl, _, rfl, c, dc, _, rfl, ho, look1_no _ (by decide +kernel), c, sh.parents, rfl, C2, _, _, rfl, rfl, r⟩
    · have e1 : (nvs as).filterMap (fun v => match v with | .int z => some (V.bl (decide (z < (sh.parents.length : Int)))) | _ => none) = (as.map sh.has).map V.bl := by
        rw [List.map_map]
        refine filterMap_some _ _ _ _ fun x _ => ?_
        show some (V.bl (decide ((x : Int) < (sh.parents.length : Int)))) = some (V.bl (decide (x < sh.parents.length)))
        by_cases h : x < sh.parents.length
        · rw [decide_eq_true h, decide_eq_true (by omega)]
        · rw [decide_eq_false h, decide_eq_false (by omega)]
      rw [e1]
      refine ⟨D, _, rfl, SqL.of upd_same, ?_⟩
      rw [List.all_map]
      exact k _ (same_new hD)
theorem scFit : FnScope ["commits", "members"] ["commits", "members"] (defScope dFit) := ⟨rfl, rfl, rfl, by decide +kernel, rfl, by decide +kernel, by decide +kernel⟩
theorem ok_fit (F : Fun K "fit_set" "fit_set" dFit f fd) (T : Txt K mg CC CM CR CH) (DA : Df P w K mg base 2 "all_there" ["commits", "members"] (spAll CC K)) : FnOk P w K mg base CX0 3 f fd ["commits", "members"] (spFit CC K) := by
  refine F.ok scFit (fun vs H Q E h => ?_) (fun cdv A outer s H vs Q E hr h => ?_)
  · obtain ⟨c, m, sh, as, rfl, _⟩ := h
    rfl
  · obtain ⟨c, m, sh, as, rfl, C, hm, hlen, k⟩ := h
    obtain ⟨tk, ht⟩ := T.num ("MOST_IN_SET", 64) (by simp)
    refine ⟨_, pss_one (ps_ret (pe_and (pe_chain op_le op_le pe_int (pe_callB call_len_seq (by rfl) T.len bt_len (pa_cons (pv 1) pa_nil)) (pe_glob (v := .int 64) (by rfl) ht ⟨tk, rfl⟩)) (pe_one (pe_df DA hr (by rfl) (pa_cons (pv 0) (pa_cons (pv 1) pa_nil)))))), ?_⟩
    refine ⟨_, rfl, m, _, rfl, .inl hm, _, _, rfl, rfl, _, rfl, ?_⟩
    have e64 : ∀ n : Nat, decide ((n : Int) ≤ 64) = decide (n ≤ 64) := fun n => by
      by_cases h : n ≤ 64
      · rw [decide_eq_true h, decide_eq_true (by omega)]
      · rw [decide_eq_false h, decide_eq_false (by omega)]
    refine ite2 (fun h1 => ?_) (fun h1 => ?_)
    · have h1 : (1 : Int) ≤ (((nvs as).length : Nat) : Int) := of_decide_eq_true h1
      rw [nvs_len] at h1
      have hne : as.isEmpty = false := by
        cases as with
        | nil => exact absurd h1 (by decide)
        | cons a r => rfl
      refine ⟨_, _, rfl, rfl, _, rfl, ?_⟩
      rw [nvs_len, e64]
      refine ite2 (fun h2 => ?_) (fun h2 => ?_)
      · refine ⟨_, rfl, _, rfl, c, m, sh, as, rfl, C, hm, hlen, fun H' s' => ?_⟩
        have := k H' s'
        rw [hne] at this
        unfold Wqatak.known at this
        rw [show decide (as.length ≤ SET) = true from h2] at this
        exact this
      · have := k H (Same.refl H)
        unfold Wqatak.known at this
        rw [show decide (as.length ≤ SET) = false from decide_eq_false (fun z => h2 (decide_eq_true z)), Bool.false_and, Bool.and_false] at this
        exact this
    · have h1 : ¬ (1 : Int) ≤ (((nvs as).length : Nat) : Int) := fun z => h1 (decide_eq_true z)
      rw [nvs_len] at h1
      have he : as.isEmpty = true := by
        cases as with
        | nil => rfl
        | cons a r => exact absurd (by rw [List.length_cons]; omega) h1
      refine ⟨_, rfl, iteF ?_⟩
      have := k H (Same.refl H)
      rw [he] at this
      exact this
theorem scFit2 : FnScope ["commits", "first", "second"] ["commits", "first", "second"] (defScope dFit2) := ⟨rfl, rfl, rfl, by decide +kernel, rfl, by decide +kernel, by decide +kernel⟩
theorem ok_fit2 (F : Fun K "fit_two_sets" "fit_two_sets" dFit2 f fd) (T : Txt K mg CC CM CR CH) (DA : Df P w K mg base 2 "all_there" ["commits", "members"] (spAll CC K)) (DF : Df P w K mg base 3 "fit_set" ["commits", "members"] (spFit CC K)) : FnOk P w K mg base CX0 4 f fd ["commits", "first", "second"] (spFit2 CC K) := by
  refine F.ok scFit2 (fun vs H Q E h => ?_) (fun cdv A outer s H vs Q E hr h => ?_)
  · obtain ⟨c, m, n, sh, as, bs, rfl, _⟩ := h
    rfl
  · obtain ⟨c, m, n, sh, as, bs, rfl, C, hm, hlen, hn, hlen2, k⟩ := h
    obtain ⟨tk, ht⟩ := T.num ("MOST_IN_SET", 64) (by simp)
    have e64 : ∀ n : Nat, decide ((n : Int) ≤ 64) = decide (n ≤ 64) := fun n => by
      by_cases h : n ≤ 64
      · rw [decide_eq_true h, decide_eq_true (by omega)]
      · rw [decide_eq_false h, decide_eq_false (by omega)]
    refine ⟨_, pss_one (ps_ret (pe_and (pe_df DF hr (by rfl) (pa_cons (pv 0) (pa_cons (pv 1) pa_nil))) (pe_and (pe_cmpR op_le (pe_callB call_len_seq (by rfl) T.len bt_len (pa_cons (pv 2) pa_nil)) (pe_glob (v := .int 64) (by rfl) ht ⟨tk, rfl⟩) (nomark _))
      (pe_one (pe_df DA (hr.mono (by decide)) (by rfl) (pa_cons (pv 0) (pa_cons (pv 2) pa_nil))))))), ?_⟩
    refine ⟨_, rfl, _, rfl, c, m, sh, as, rfl, C, hm, hlen, fun H1 s1 => ⟨_, rfl, ?_⟩⟩
    cases e : (!as.isEmpty && Wqatak.known sh as) with
    | false =>
      refine iteF ?_
      have := k H1 s1
      rw [e] at this
      exact this
    | true =>
      refine iteT ⟨_, rfl, n, _, rfl, .inl (s1.seq hn), _, _, rfl, rfl, _, rfl, ?_⟩
      rw [nvs_len, e64]
      refine ite2 (fun h2 => ?_) (fun h2 => ?_)
      · refine ⟨_, rfl, _, rfl, c, n, sh, bs, rfl, C.same s1, s1.seq hn, hlen2, fun H2 s2 => ?_⟩
        have := k H2 (s1.trans s2)
        rw [e] at this
        unfold Wqatak.known at this
        rw [show decide (bs.length ≤ SET) = true from h2] at this
        exact this
      · have := k H1 s1
        rw [e] at this
        unfold Wqatak.known at this
        rw [show decide (bs.length ≤ SET) = false from decide_eq_false (fun z => h2 (decide_eq_true z)), Bool.false_and, Bool.and_false] at this
        exact this
theorem scCounted : FnScope ["told"] ["told"] (defScope dCounted) := ⟨rfl, rfl, rfl, by decide +kernel, rfl, by decide +kernel, by decide +kernel⟩
theorem ok_counted (F : Fun K "counted" "counted" dCounted f fd) (T : Txt K mg CC CM CR CH) : FnOk P w K mg base CX0 1 f fd ["told"] spCounted := by
  refine F.ok scCounted (fun vs H Q E h => ?_) (fun cdv A outer s H vs Q E hr h => ?_)
  · obtain ⟨a, l, rfl, _⟩ := h
    rfl
  · obtain ⟨a, l, rfl, ha, hlen, k⟩ := h
    refine ⟨_, pss_one (ps_ret (pe_op op_cat (pe_lst (pa_cons (pe_callB call_len_seq (by rfl) T.len bt_len (pa_cons (pv 0) pa_nil)) pa_nil)) (pv 0))), ?_⟩
    refine ⟨_, rfl, a, _, rfl, .inl (SqL.of ha), (by show 1 ≤ sizeLine; decide), fun q hq => ?_⟩
    refine ⟨_, rfl, q, a, _, _, rfl, rfl, upd_same, same_new hq _ _ ha, ?_, fun p hp => ?_⟩
    · rw [nvs_len, sizeLine_eq, List.length_singleton]
      omega
    · refine k _ p ((same_new hq).trans (same_new hp)) ((same_new hq).free hp) ?_
      rw [upd_same, ansV_row, nvs_len]
      rfl
end
end Pr
end
section
set_option Elab.async false
set_option linter.all false
set_option maxRecDepth 100000
set_option maxHeartbeats 4000000
namespace Pr
open PySem PySem.Spec PyProof.Rows L2 Mb Mm
abbrev aPar : Stmt := top 30
abbrev aComes : Stmt := top 31
abbrev aSteps : Stmt := top 32
abbrev aBest : Stmt := top 33
abbrev aHeads : Stmt := top 34
abbrev aWalk : Stmt := top 35
abbrev aBetween : Stmt := top 36
abbrev aHalve : Stmt := top 37
/-! ### promises -/
def Tell (H : Hp) (Q : VK) (a : Wqatak.Ans) : Prop := ∀ (H' : Hp) (p : Addr), Same H H' → H p = none → H' p = some (.lst (ansV a)) → Q (.ref p) H'
def spQ1 (CC : Addr) (call : Nat → Wqatak.Call) : Sp := fun vs H Q _ => ∃ (c : Addr) (s : Hist) (a : Nat), vs = [.ref c, nv a] ∧ CAt CC H c s.parents ∧ Wf s ∧ Tell H Q (Wqatak.told s (call a))
def spQ2 (CC : Addr) (call : Nat → Nat → Wqatak.Call) : Sp := fun vs H Q _ => ∃ (c : Addr) (s : Hist) (a b : Nat), vs = [.ref c, nv a, nv b] ∧ CAt CC H c s.parents ∧ Wf s ∧ Tell H Q (Wqatak.told s (call a b))
def spQS (CC : Addr) (K : PySem.W.Frag) (call : List Nat → Wqatak.Call) : Sp := fun vs H Q _ => ∃ (c m : Addr) (s : Hist) (as : List Nat), vs = [.ref c, .ref m] ∧ CAt CC H c s.parents ∧ Wf s ∧ SqL K H m (nvs as) ∧ as.length ≤ 30000 ∧ Tell H Q (Wqatak.told s (call as))
def spQSS (CC : Addr) (K : PySem.W.Frag) (call : List Nat → List Nat → Wqatak.Call) : Sp := fun vs H Q _ => ∃ (c m n : Addr) (s : Hist) (as bs : List Nat), vs = [.ref c, .ref m, .ref n] ∧ CAt CC H c s.parents ∧ Wf s ∧ SqL K H m (nvs as) ∧ as.length ≤ 30000 ∧ SqL K H n (nvs bs) ∧ bs.length ≤ 30000 ∧ Tell H Q (Wqatak.told s (call as bs))
theorem Tell.mono {H H1 : Hp} {Q : VK} {a : Wqatak.Ans} (k : Tell H Q a) (s : Same H H1) : Tell H1 Q a := fun H' p s' hp h => k H' p (s.trans s') (s.free hp) h
theorem Tell.one {H : Hp} {Q : VK} {a : Wqatak.Ans} (k : Tell H Q a) {vs : List V} (e : ansV a = vs) (p : Addr) (hp : H p = none) : Q (.ref p) (upd H p (.lst vs)) := k _ p (same_new hp) hp (by rw [upd_same, e])
theorem has_lt {s : Hist} {a : Nat} : s.has a = true ↔ a < s.size := decide_eq_true_iff
theorem known_lt {s : Hist} {as : List Nat} (h : Wqatak.known s as = true) : (∀ a ∈ as, a < s.size) ∧ as.length ≤ 64 := by
  unfold Wqatak.known at h
  rw [Bool.and_eq_true, List.all_eq_true] at h
  exact ⟨fun a ha => has_lt.mp (h.2 a ha), of_decide_eq_true h.1⟩
section
variable {P : Program} {w : World} {K : PySem.W.Frag} {mg : Str → Option Value} {base : Heap} {CC CM CR CH f : Addr} {fd : FuncData}
theorem scAPar : FnScope ["commits", "a"] ["commits", "a"] (defScope aPar) := ⟨rfl, rfl, rfl, by decide +kernel, rfl, by decide +kernel, by decide +kernel⟩
theorem ok_aPar (F : Fun K "answer_parents" "answer_parents" aPar f fd) (T : Txt K mg CC CM CR CH) (DA : Df P w K mg base 2 "all_there" ["commits", "members"] (spAll CC K)) (DC : Df P w K mg base 1 "counted" ["told"] spCounted) (MP : Mt P w K mg base CC 1 "parents_of" ["self", "commit"] (spPar CC)) :
    FnOk P w K mg base CX0 5 f fd ["commits", "a"] (spQ1 CC .parents) := by
  refine F.ok scAPar (fun vs H Q E h => ?_) (fun cdv A outer s H vs Q E hr h => ?_)
  · obtain ⟨c, sh, a, rfl, _⟩ := h
    rfl
  · obtain ⟨c, sh, a, rfl, C, W, k⟩ := h
    refine ⟨_, pss_cons (ps_if (pt_not (pt_val (pe_df DA (hr.mono (by decide)) (by rfl) (pa_cons (pv 0) (pa_cons (pe_lst (pa_cons (pv 1) pa_nil)) pa_nil))))) (pss_one (ps_ret (pe_lst (pa_cons (pe_un un_neg pe_int) pa_nil)))) pss_nil)
      (pss_one (ps_ret (pe_df DC (hr.mono (by decide)) (by rfl) (pa_cons (pe_mt MP T.cC (hr.mono (by decide)) (pv 0) (pa_cons (pv 1) pa_nil)) pa_nil)))), ?_⟩
    refine ⟨_, rfl, _, rfl, (by show 1 ≤ sizeLine; decide), fun q hq => ⟨c, q, sh, [a], rfl, C.same (same_new hq), SqL.of upd_same, by simp, fun H1 s1' => ⟨_, rfl, ?_⟩⟩⟩
    have s1 : Same H H1 := (same_new hq).trans s1'
    have k1 := k.mono s1
    cases e : sh.has a with
    | false =>
      have e1 : [a].all sh.has = false := by rw [List.all_cons, e]; rfl
      rw [e1]
      refine iteT ⟨_, rfl, (by show 1 ≤ sizeLine; decide), k1.one ?_⟩
      show ansV (if sh.has a = false then Wqatak.BAD else _) = _
      rw [if_pos e]
      rfl
    | true =>
      have e1 : [a].all sh.has = true := by rw [List.all_cons, e]; rfl
      rw [e1]
      have ha : a < sh.parents.length := has_lt.mp e
      obtain ⟨l, rows, C1⟩ := C.same s1
      obtain ⟨dc, ho⟩ := C1.obj
      refine iteF ⟨_, rfl, c, dc, _, rfl, ho, look1_no _ (by decide +kernel), _, rfl, c, sh.parents, a, rfl, ⟨l, rows, C1⟩, ha, fun H2 p2 s2 hp2 h2 => ?_⟩
      refine ⟨p2, _, rfl, h2, ?_, fun H3 p3 s3 hp3 h3 => ?_⟩
      · have := (gd_wf W).len a
        omega
      · refine k1 H3 p3 (s2.trans s3) (s2.free hp3) ?_
        rw [h3]
        show _ = some (HO.lst (ansV (if sh.has a = false then Wqatak.BAD else _)))
        rw [if_neg (by rw [e]; decide)]
theorem scAComes : FnScope ["commits", "a", "b"] ["commits", "a", "b"] (defScope aComes) := ⟨rfl, rfl, rfl, by decide +kernel, rfl, by decide +kernel, by decide +kernel⟩
theorem ok_aComes (F : Fun K "answer_comes_from" "answer_comes_from" aComes f fd) (T : Txt K mg CC CM CR CH) (DA : Df P w K mg base 2 "all_there" ["commits", "members"] (spAll CC K)) (MF : Mt P w K mg base CC 2 "comes_from" ["self", "commit", "ancestor"] (spComes CC)) :
    FnOk P w K mg base CX0 5 f fd ["commits", "a", "b"] (spQ2 CC .comes) := by
  refine F.ok scAComes (fun vs H Q E h => ?_) (fun cdv A outer s H vs Q E hr h => ?_)
  · obtain ⟨c, sh, a, b, rfl, _⟩ := h
    rfl
  · obtain ⟨c, sh, a, b, rfl, C, W, k⟩ := h
    refine ⟨_, pss_cons (ps_if (pt_not (pt_val (pe_df DA (hr.mono (by decide)) (by rfl) (pa_cons (pv 0) (pa_cons (pe_lst (pa_cons (pv 1) (pa_cons (pv 2) pa_nil))) pa_nil))))) (pss_one (ps_ret (pe_lst (pa_cons (pe_un un_neg pe_int) pa_nil)))) pss_nil)
      (pss_one (ps_ret (pe_lst (pa_cons (pe_ifExp (pt_val (pe_mt MF T.cC (hr.mono (by decide)) (pv 0) (pa_cons (pv 1) (pa_cons (pv 2) pa_nil)))) pe_int pe_int) pa_nil)))), ?_⟩
    refine ⟨_, rfl, _, rfl, _, rfl, (by show 2 ≤ sizeLine; decide), fun q hq => ⟨c, q, sh, [a, b], rfl, C.same (same_new hq), SqL.of upd_same, by simp, fun H1 s1' => ⟨_, rfl, ?_⟩⟩⟩
    have s1 : Same H H1 := (same_new hq).trans s1'
    have k1 := k.mono s1
    have ea : [a, b].all sh.has = (sh.has a && (sh.has b && true)) := rfl
    rw [ea]
    cases e : (sh.has a && (sh.has b && true)) with
    | false =>
      refine iteT ⟨_, rfl, (by show 1 ≤ sizeLine; decide), k1.one ?_⟩
      show ansV (if sh.has a = false ∨ sh.has b = false then Wqatak.BAD else _) = _
      rw [if_pos (by rw [Bool.and_true, Bool.and_eq_false_iff] at e; exact e)]
      rfl
    | true =>
      rw [Bool.and_true, Bool.and_eq_true] at e
      have ha : a < sh.parents.length := has_lt.mp e.1
      have hb : b < sh.parents.length := has_lt.mp e.2
      obtain ⟨l, rows, C1⟩ := C.same s1
      obtain ⟨dc, ho⟩ := C1.obj
      refine iteF ⟨_, rfl, c, dc, _, rfl, ho, look1_no _ (by decide +kernel), _, rfl, _, rfl, c, sh.parents, a, b, rfl, ⟨l, rows, C1⟩, ha, hb, gd_wf W, fun H2 s2 => ?_⟩
      have k2 := k1.mono s2
      have e2 : Wqatak.told sh (.comes a b) = Wqatak.says (if (Mb.steps sh a b).isSome = true then 1 else 0) := if_neg (by rw [e.1, e.2]; decide)
      have e3 : (reached sh.parents [a]).getD b false = true ↔ (Mb.steps sh a b).isSome = true := by
        rw [reached_iff W.low (one_lt ha), steps_some sh W.low ha]
        simp
      rw [e2] at k2
      refine ⟨_, rfl, ite2 (fun hb => ?_) (fun hb => ?_)⟩
      · rw [if_pos (e3.mp hb)] at k2
        exact ⟨(by show 1 ≤ sizeLine; decide), k2.one rfl⟩
      · rw [if_neg (fun z => hb (e3.mpr z))] at k2
        exact ⟨(by show 1 ≤ sizeLine; decide), k2.one rfl⟩
theorem scASteps : FnScope ["commits", "a", "b", "fewest"] ["commits", "a", "b"] (defScope aSteps) := ⟨rfl, rfl, rfl, by decide +kernel, rfl, by decide +kernel, by decide +kernel⟩
theorem ok_aSteps (F : Fun K "answer_steps" "answer_steps" aSteps f fd) (T : Txt K mg CC CM CR CH) (DA : Df P w K mg base 2 "all_there" ["commits", "members"] (spAll CC K)) (MF : Mt P w K mg base CC 1 "fewest_steps" ["self", "start", "goal"] (spFewest CC)) :
    FnOk P w K mg base CX0 5 f fd ["commits", "a", "b"] (spQ2 CC .steps) := by
  refine F.ok scASteps (fun vs H Q E h => ?_) (fun cdv A outer s H vs Q E hr h => ?_)
  · obtain ⟨c, sh, a, b, rfl, _⟩ := h
    rfl
  · obtain ⟨c, sh, a, b, rfl, C, W, k⟩ := h
    have nd := scASteps.nd
    refine ⟨_, pss_cons (ps_if (pt_not (pt_val (pe_df DA (hr.mono (by decide)) (by rfl) (pa_cons (pv 0) (pa_cons (pe_lst (pa_cons (pv 1) (pa_cons (pv 2) pa_nil))) pa_nil))))) (pss_one (ps_ret (pe_lst (pa_cons (pe_un un_neg pe_int) pa_nil)))) pss_nil)
      (pss_cons (ps_set (i := 3) nd rfl (Or.inl rfl) (pe_mt MF T.cC (hr.mono (by decide)) (pv 0) (pa_cons (pv 1) (pa_cons (pv 2) pa_nil))))
      (pss_cons (ps_if (pt_cmp (pc_isN (pv 3))) (pss_one (ps_ret (pe_lst (pa_cons (pe_un un_neg pe_int) pa_nil)))) pss_nil)
      (pss_one (ps_ret (pe_lst (pa_cons (pv 3) pa_nil)))))), ?_⟩
    refine ⟨_, rfl, _, rfl, _, rfl, (by show 2 ≤ sizeLine; decide), fun q hq => ⟨c, q, sh, [a, b], rfl, C.same (same_new hq), SqL.of upd_same, by simp, fun H1 s1' => ⟨_, rfl, ?_⟩⟩⟩
    have s1 : Same H H1 := (same_new hq).trans s1'
    have k1 := k.mono s1
    have ea : [a, b].all sh.has = (sh.has a && (sh.has b && true)) := rfl
    rw [ea]
    cases e : (sh.has a && (sh.has b && true)) with
    | false =>
      refine iteT ⟨_, rfl, (by show 1 ≤ sizeLine; decide), k1.one ?_⟩
      show ansV (if sh.has a = false ∨ sh.has b = false then Wqatak.BAD else _) = _
      rw [if_pos (by rw [Bool.and_true, Bool.and_eq_false_iff] at e; exact e)]
      rfl
    | true =>
      rw [Bool.and_true, Bool.and_eq_true] at e
      have ha : a < sh.parents.length := has_lt.mp e.1
      have hb : b < sh.parents.length := has_lt.mp e.2
      obtain ⟨l, rows, C1⟩ := C.same s1
      obtain ⟨dc, ho⟩ := C1.obj
      refine iteF ⟨_, rfl, c, dc, _, rfl, ho, look1_no _ (by decide +kernel), _, rfl, _, rfl, c, sh.parents, a, b, rfl, ⟨l, rows, C1⟩, ha, hb, gd_wf W, fun H2 s2 => ?_⟩
      have k2 := k1.mono s2
      have e2 : Wqatak.told sh (.steps a b) = (match Mb.steps sh a b with | some n => Wqatak.says (n : Nat) | none => Wqatak.NO) := if_neg (by rw [e.1, e.2]; decide)
      rw [e2] at k2
      rw [← steps_eq sh W.low a b]
      cases e3 : Mb.steps sh a b with
      | none =>
        rw [e3] at k2
        exact ⟨_, rfl, _, rfl, iteT ⟨_, rfl, (by show 1 ≤ sizeLine; decide), k2.one rfl⟩⟩
      | some n =>
        rw [e3] at k2
        exact ⟨_, rfl, _, rfl, iteF ⟨_, rfl, (by show 1 ≤ sizeLine; decide), k2.one rfl⟩⟩
theorem scABetween : FnScope ["commits", "a", "b"] ["commits", "a", "b"] (defScope aBetween) := ⟨rfl, rfl, rfl, by decide +kernel, rfl, by decide +kernel, by decide +kernel⟩
theorem ok_aBetween (F : Fun K "answer_between" "answer_between" aBetween f fd) (T : Txt K mg CC CM CR CH) (DA : Df P w K mg base 2 "all_there" ["commits", "members"] (spAll CC K)) (DC : Df P w K mg base 1 "counted" ["told"] spCounted) (MB : Mt P w K mg base CC 2 "between" ["self", "upper", "lower"] (spBetween CC)) :
    FnOk P w K mg base CX0 5 f fd ["commits", "a", "b"] (spQ2 CC .between) := by
  refine F.ok scABetween (fun vs H Q E h => ?_) (fun cdv A outer s H vs Q E hr h => ?_)
  · obtain ⟨c, sh, a, b, rfl, _⟩ := h
    rfl
  · obtain ⟨c, sh, a, b, rfl, C, W, k⟩ := h
    refine ⟨_, pss_cons (ps_if (pt_not (pt_val (pe_df DA (hr.mono (by decide)) (by rfl) (pa_cons (pv 0) (pa_cons (pe_lst (pa_cons (pv 1) (pa_cons (pv 2) pa_nil))) pa_nil))))) (pss_one (ps_ret (pe_lst (pa_cons (pe_un un_neg pe_int) pa_nil)))) pss_nil)
      (pss_one (ps_ret (pe_df DC (hr.mono (by decide)) (by rfl) (pa_cons (pe_mt MB T.cC (hr.mono (by decide)) (pv 0) (pa_cons (pv 1) (pa_cons (pv 2) pa_nil))) pa_nil)))), ?_⟩
    refine ⟨_, rfl, _, rfl, _, rfl, (by show 2 ≤ sizeLine; decide), fun q hq => ⟨c, q, sh, [a, b], rfl, C.same (same_new hq), SqL.of upd_same, by simp, fun H1 s1' => ⟨_, rfl, ?_⟩⟩⟩
    have s1 : Same H H1 := (same_new hq).trans s1'
    have k1 := k.mono s1
    have ea : [a, b].all sh.has = (sh.has a && (sh.has b && true)) := rfl
    rw [ea]
    cases e : (sh.has a && (sh.has b && true)) with
    | false =>
      refine iteT ⟨_, rfl, (by show 1 ≤ sizeLine; decide), k1.one ?_⟩
      show ansV (if sh.has a = false ∨ sh.has b = false then Wqatak.BAD else _) = _
      rw [if_pos (by rw [Bool.and_true, Bool.and_eq_false_iff] at e; exact e)]
      rfl
    | true =>
      rw [Bool.and_true, Bool.and_eq_true] at e
      have ha : a < sh.size := has_lt.mp e.1
      have hb : b < sh.size := has_lt.mp e.2
      obtain ⟨l, rows, C1⟩ := C.same s1
      obtain ⟨dc, ho⟩ := C1.obj
      refine iteF ⟨_, rfl, c, dc, _, rfl, ho, look1_no _ (by decide +kernel), _, rfl, _, rfl, c, sh, a, b, rfl, ⟨l, rows, C1⟩, W, ha, hb, fun H2 p2 s2 hp2 h2 => ?_⟩
      have e2 : Wqatak.told sh (.between a b) = Wqatak.rowAns (Mb.between sh a b).reverse := if_neg (by rw [e.1, e.2]; decide)
      refine ⟨p2, _, rfl, h2, ?_, fun H3 p3 s3 hp3 h3 => ?_⟩
      · have h5 := nodup_len (n := sh.size) (between_sorted W a b) fun x hx => by
          have := ((mem_between W ha x).mp hx).1.le W.low
          omega
        have h6 : sh.size ≤ 128 := W.few
        rw [List.length_reverse]
        omega
      · rw [← e2] at h3
        exact k1 H3 p3 (s2.trans s3) (s2.free hp3) h3
theorem scABest : FnScope ["commits", "members"] ["commits", "members"] (defScope aBest) := ⟨rfl, rfl, rfl, by decide +kernel, rfl, by decide +kernel, by decide +kernel⟩
theorem ok_aBest (F : Fun K "answer_best" "answer_best" aBest f fd) (T : Txt K mg CC CM CR CH) (DF : Df P w K mg base 3 "fit_set" ["commits", "members"] (spFit CC K)) (DC : Df P w K mg base 1 "counted" ["told"] spCounted) (MB : Mt P w K mg base CC 3 "best_common" ["self", "members"] (spBest CC K)) :
    FnOk P w K mg base CX0 5 f fd ["commits", "members"] (spQS CC K .best) := by
  refine F.ok scABest (fun vs H Q E h => ?_) (fun cdv A outer s H vs Q E hr h => ?_)
  · obtain ⟨c, m, sh, as, rfl, _⟩ := h
    rfl
  · obtain ⟨c, m, sh, as, rfl, C, W, hm, hlen, k⟩ := h
    refine ⟨_, pss_cons (ps_if (pt_not (pt_val (pe_df DF (hr.mono (by decide)) (by rfl) (pa_cons (pv 0) (pa_cons (pv 1) pa_nil))))) (pss_one (ps_ret (pe_lst (pa_cons (pe_un un_neg pe_int) pa_nil)))) pss_nil)
      (pss_one (ps_ret (pe_df DC (hr.mono (by decide)) (by rfl) (pa_cons (pe_mt MB T.cC (hr.mono (by decide)) (pv 0) (pa_cons (pv 1) pa_nil)) pa_nil)))), ?_⟩
    refine ⟨_, rfl, _, rfl, c, m, sh, as, rfl, C, hm, hlen, fun H1 s1 => ⟨_, rfl, ?_⟩⟩
    have k1 := k.mono s1
    cases e : (!as.isEmpty && Wqatak.known sh as) with
    | false =>
      refine iteT ⟨_, rfl, (by show 1 ≤ sizeLine; decide), k1.one ?_⟩
      show ansV (if as.isEmpty = true ∨ Wqatak.known sh as = false then Wqatak.BAD else _) = _
      rw [if_pos (by rw [Bool.and_eq_false_iff, Bool.not_eq_false'] at e; exact e)]
      rfl
    | true =>
      rw [Bool.and_eq_true, Bool.not_eq_true'] at e
      obtain ⟨has, h64⟩ := known_lt e.2
      obtain ⟨l, rows, C1⟩ := C.same s1
      obtain ⟨dc, ho⟩ := C1.obj
      refine iteF ⟨_, rfl, c, dc, _, rfl, ho, look1_no _ (by decide +kernel), _, rfl, c, m, sh, as, rfl, ⟨l, rows, C1⟩, W, s1.seq hm, has, fun H2 p2 s2 hp2 h2 => ?_⟩
      have e2 : Wqatak.told sh (.best as) = Wqatak.rowAns (Mb.best sh as) := if_neg (by rw [e.1, e.2]; decide)
      refine ⟨p2, _, rfl, h2, ?_, fun H3 p3 s3 hp3 h3 => ?_⟩
      · have h5 := step_len W (.best as)
        have h6 : (Wqatak.step sh (.best as)).2 = Wqatak.told sh (.best as) := rfl
        rw [h6, e2] at h5
        exact Nat.le_trans h5 (by decide)
      · rw [← e2] at h3
        exact k1 H3 p3 (s2.trans s3) (s2.free hp3) h3
theorem scAHeads : FnScope ["commits", "members"] ["commits", "members"] (defScope aHeads) := ⟨rfl, rfl, rfl, by decide +kernel, rfl, by decide +kernel, by decide +kernel⟩
theorem ok_aHeads (F : Fun K "answer_heads" "answer_heads" aHeads f fd) (T : Txt K mg CC CM CR CH) (DF : Df P w K mg base 3 "fit_set" ["commits", "members"] (spFit CC K)) (DC : Df P w K mg base 1 "counted" ["told"] spCounted) (MB : Mt P w K mg base CC 2 "heads" ["self", "members"] (spHeads CC K)) :
    FnOk P w K mg base CX0 5 f fd ["commits", "members"] (spQS CC K .heads) := by
  refine F.ok scAHeads (fun vs H Q E h => ?_) (fun cdv A outer s H vs Q E hr h => ?_)
  · obtain ⟨c, m, sh, as, rfl, _⟩ := h
    rfl
  · obtain ⟨c, m, sh, as, rfl, C, W, hm, hlen, k⟩ := h
    refine ⟨_, pss_cons (ps_if (pt_not (pt_val (pe_df DF (hr.mono (by decide)) (by rfl) (pa_cons (pv 0) (pa_cons (pv 1) pa_nil))))) (pss_one (ps_ret (pe_lst (pa_cons (pe_un un_neg pe_int) pa_nil)))) pss_nil)
      (pss_one (ps_ret (pe_df DC (hr.mono (by decide)) (by rfl) (pa_cons (pe_mt MB T.cC (hr.mono (by decide)) (pv 0) (pa_cons (pv 1) pa_nil)) pa_nil)))), ?_⟩
    refine ⟨_, rfl, _, rfl, c, m, sh, as, rfl, C, hm, hlen, fun H1 s1 => ⟨_, rfl, ?_⟩⟩
    have k1 := k.mono s1
    cases e : (!as.isEmpty && Wqatak.known sh as) with
    | false =>
      refine iteT ⟨_, rfl, (by show 1 ≤ sizeLine; decide), k1.one ?_⟩
      show ansV (if as.isEmpty = true ∨ Wqatak.known sh as = false then Wqatak.BAD else _) = _
      rw [if_pos (by rw [Bool.and_eq_false_iff, Bool.not_eq_false'] at e; exact e)]
      rfl
    | true =>
      rw [Bool.and_eq_true, Bool.not_eq_true'] at e
      obtain ⟨has, h64⟩ := known_lt e.2
      obtain ⟨l, rows, C1⟩ := C.same s1
      obtain ⟨dc, ho⟩ := C1.obj
      refine iteF ⟨_, rfl, c, dc, _, rfl, ho, look1_no _ (by decide +kernel), _, rfl, c, m, sh, as, rfl, ⟨l, rows, C1⟩, W, s1.seq hm, has, by omega, fun H2 p2 s2 hp2 h2 => ?_⟩
      have e2 : Wqatak.told sh (.heads as) = Wqatak.rowAns (Mb.heads sh as) := if_neg (by rw [e.1, e.2]; decide)
      refine ⟨p2, _, rfl, h2, ?_, fun H3 p3 s3 hp3 h3 => ?_⟩
      · have h5 := step_len W (.heads as)
        have h6 : (Wqatak.step sh (.heads as)).2 = Wqatak.told sh (.heads as) := rfl
        rw [h6, e2] at h5
        exact Nat.le_trans h5 (by decide)
      · rw [← e2] at h3
        exact k1 H3 p3 (s2.trans s3) (s2.free hp3) h3
theorem scAWalk : FnScope ["commits", "first", "second"] ["commits", "first", "second"] (defScope aWalk) := ⟨rfl, rfl, rfl, by decide +kernel, rfl, by decide +kernel, by decide +kernel⟩
theorem ok_aWalk (F : Fun K "answer_walk" "answer_walk" aWalk f fd) (T : Txt K mg CC CM CR CH) (DF : Df P w K mg base 4 "fit_two_sets" ["commits", "first", "second"] (spFit2 CC K)) (DC : Df P w K mg base 1 "counted" ["told"] spCounted) (MW : Mt P w K mg base CC 2 "walk" ["self", "first", "second"] (spWalk CC K)) :
    FnOk P w K mg base CX0 5 f fd ["commits", "first", "second"] (spQSS CC K .walk) := by
  refine F.ok scAWalk (fun vs H Q E h => ?_) (fun cdv A outer s H vs Q E hr h => ?_)
  · obtain ⟨c, m, n, sh, as, bs, rfl, _⟩ := h
    rfl
  · obtain ⟨c, m, n, sh, as, bs, rfl, C, W, hm, hlen, hn, hlen2, k⟩ := h
    refine ⟨_, pss_cons (ps_if (pt_not (pt_val (pe_df DF (hr.mono (by decide)) (by rfl) (pa_cons (pv 0) (pa_cons (pv 1) (pa_cons (pv 2) pa_nil)))))) (pss_one (ps_ret (pe_lst (pa_cons (pe_un un_neg pe_int) pa_nil)))) pss_nil)
      (pss_one (ps_ret (pe_df DC (hr.mono (by decide)) (by rfl) (pa_cons (pe_mt MW T.cC (hr.mono (by decide)) (pv 0) (pa_cons (pv 1) (pa_cons (pv 2) pa_nil))) pa_nil)))), ?_⟩
    refine ⟨_, rfl, _, rfl, _, rfl, c, m, n, sh, as, bs, rfl, C, hm, hlen, hn, hlen2, fun H1 s1 => ⟨_, rfl, ?_⟩⟩
    have k1 := k.mono s1
    cases e : ((!as.isEmpty && Wqatak.known sh as) && Wqatak.known sh bs) with
    | false =>
      refine iteT ⟨_, rfl, (by show 1 ≤ sizeLine; decide), k1.one ?_⟩
      show ansV (if as.isEmpty = true ∨ Wqatak.known sh as = false ∨ Wqatak.known sh bs = false then Wqatak.BAD else _) = _
      rw [if_pos (by rw [Bool.and_eq_false_iff, Bool.and_eq_false_iff, Bool.not_eq_false', or_assoc] at e; exact e)]
      rfl
    | true =>
      rw [Bool.and_eq_true, Bool.and_eq_true, Bool.not_eq_true'] at e
      obtain ⟨has, h64⟩ := known_lt e.1.2
      obtain ⟨hbs, h642⟩ := known_lt e.2
      obtain ⟨l, rows, C1⟩ := C.same s1
      obtain ⟨dc, ho⟩ := C1.obj
      refine iteF ⟨_, rfl, c, dc, _, rfl, ho, look1_no _ (by decide +kernel), _, rfl, _, rfl, c, m, n, sh, as, bs, rfl, ⟨l, rows, C1⟩, W, s1.seq hm, s1.seq hn, has, hbs, fun H2 p2 s2 hp2 h2 => ?_⟩
      have e2 : Wqatak.told sh (.walk as bs) = Wqatak.rowAns (Mb.walk sh as bs).reverse := if_neg (by rw [e.1.1, e.1.2, e.2]; decide)
      refine ⟨p2, _, rfl, h2, ?_, fun H3 p3 s3 hp3 h3 => ?_⟩
      · have h5 := step_len W (.walk as bs)
        have h6 : (Wqatak.step sh (.walk as bs)).2 = Wqatak.told sh (.walk as bs) := rfl
        rw [h6, e2] at h5
        exact Nat.le_trans h5 (by decide)
      · rw [← e2] at h3
        exact k1 H3 p3 (s2.trans s3) (s2.free hp3) h3
theorem scAHalve : FnScope ["commits", "first", "second", "look"] ["commits", "first", "second"] (defScope aHalve) := ⟨rfl, rfl, rfl, by decide +kernel, rfl, by decide +kernel, by decide +kernel⟩
theorem ok_aHalve (F : Fun K "answer_halve" "answer_halve" aHalve f fd) (T : Txt K mg CC CM CR CH) (DF : Df P w K mg base 4 "fit_two_sets" ["commits", "first", "second"] (spFit2 CC K)) (MW : Mt P w K mg base CC 2 "walk" ["self", "first", "second"] (spWalk CC K)) (ML : Mt P w K mg base CC 2 "best_look" ["self", "candidates"] (spLook CC K)) :
    FnOk P w K mg base CX0 5 f fd ["commits", "first", "second"] (spQSS CC K .halve) := by
  refine F.ok scAHalve (fun vs H Q E h => ?_) (fun cdv A outer s H vs Q E hr h => ?_)
  · obtain ⟨c, m, n, sh, as, bs, rfl, _⟩ := h
    rfl
  · obtain ⟨c, m, n, sh, as, bs, rfl, C, W, hm, hlen, hn, hlen2, k⟩ := h
    have nd := scAHalve.nd
    refine ⟨_, pss_cons (ps_if (pt_not (pt_val (pe_df DF (hr.mono (by decide)) (by rfl) (pa_cons (pv 0) (pa_cons (pv 1) (pa_cons (pv 2) pa_nil)))))) (pss_one (ps_ret (pe_lst (pa_cons (pe_un un_neg pe_int) pa_nil)))) pss_nil)
      (pss_cons (ps_set (i := 3) nd rfl (Or.inl rfl) (pe_mt ML T.cC (hr.mono (by decide)) (pv 0) (pa_cons (pe_mt MW T.cC (hr.mono (by decide)) (pv 0) (pa_cons (pv 1) (pa_cons (pv 2) pa_nil))) pa_nil)))
      (pss_cons (ps_if (pt_cmp (pc_isN (pv 3))) (pss_one (ps_ret (pe_lst (pa_cons pe_int pa_nil)))) pss_nil)
      (pss_one (ps_ret (pe_lst (pa_cons pe_int (pa_cons (pv 3) pa_nil))))))), ?_⟩
    refine ⟨_, rfl, _, rfl, _, rfl, c, m, n, sh, as, bs, rfl, C, hm, hlen, hn, hlen2, fun H1 s1 => ⟨_, rfl, ?_⟩⟩
    have k1 := k.mono s1
    cases e : ((!as.isEmpty && Wqatak.known sh as) && Wqatak.known sh bs) with
    | false =>
      refine iteT ⟨_, rfl, (by show 1 ≤ sizeLine; decide), k1.one ?_⟩
      show ansV (if as.isEmpty = true ∨ Wqatak.known sh as = false ∨ Wqatak.known sh bs = false then Wqatak.BAD else _) = _
      rw [if_pos (by rw [Bool.and_eq_false_iff, Bool.and_eq_false_iff, Bool.not_eq_false', or_assoc] at e; exact e)]
      rfl
    | true =>
      rw [Bool.and_eq_true, Bool.and_eq_true, Bool.not_eq_true'] at e
      obtain ⟨has, h64⟩ := known_lt e.1.2
      obtain ⟨hbs, h642⟩ := known_lt e.2
      obtain ⟨l, rows, C1⟩ := C.same s1
      obtain ⟨dc, ho⟩ := C1.obj
      refine iteF ⟨_, rfl, c, dc, _, rfl, ho, look1_no _ (by decide +kernel), _, rfl, c, dc, _, rfl, ho, look1_no _ (by decide +kernel), _, rfl, _, rfl, c, m, n, sh, as, bs, rfl, ⟨l, rows, C1⟩, W, s1.seq hm, s1.seq hn, has, hbs, fun H2 p2 s2 hp2 h2 => ?_⟩
      have e2 : Wqatak.told sh (.halve as bs) = (match Mb.halve sh (Mb.walk sh as bs) with | some c => ⟨1, [c]⟩ | none => Wqatak.says 0) := if_neg (by rw [e.1.1, e.1.2, e.2]; decide)
      have hw : ∀ x ∈ Mb.walk sh as bs, x < sh.size := fun x hx => by
        obtain ⟨a, h3, h4⟩ := ((mem_walk W has hbs x).mp hx).1
        have h5 := h4.le W.low
        have h6 := has a h3
        omega
      have hwl := nodup_len (walk_sorted W as bs) hw
      refine ⟨c, p2, sh, _, rfl, ⟨l, rows, C1.same s2⟩, W, SqL.of h2, hw, Nat.le_trans hwl W.few, fun H3 s3 => ?_⟩
      have k3 := k1.mono (s2.trans s3)
      rw [e2] at k3
      cases e3 : Mb.halve sh (Mb.walk sh as bs) with
      | none =>
        rw [e3] at k3
        exact ⟨_, rfl, _, rfl, iteT ⟨(by show 1 ≤ sizeLine; decide), k3.one rfl⟩⟩
      | some z =>
        rw [e3] at k3
        exact ⟨_, rfl, _, rfl, iteF ⟨_, rfl, (by show 2 ≤ sizeLine; decide), k3.one rfl⟩⟩
end
end Pr
end
section
set_option Elab.async false
set_option linter.all false
set_option maxRecDepth 100000
set_option maxHeartbeats 4000000
namespace Pr
open PySem PySem.Spec PyProof.Rows L2 Mb Mm
abbrev aRow : Stmt := top 26
abbrev aPair : Stmt := top 27
abbrev aTwo : Stmt := top 28
abbrev aAdd : Stmt := top 29
abbrev aMark : Stmt := top 38
abbrev aMarked : Stmt := top 39
abbrev aPrune : Stmt := top 40
/-! ### mathematics: none twice -/
theorem distinct_iff : ∀ l : List Nat, Mb.distinct l = true ↔ l.Nodup
  | [] => by simp [Mb.distinct]
  | x :: r => by
    rw [Mb.distinct, Bool.and_eq_true, distinct_iff r, List.nodup_cons]
    simp
theorem sub_len : ∀ {l m : List Int}, l.Nodup → (∀ x ∈ l, x ∈ m) → l.length ≤ m.length
  | [], _, _, _ => Nat.zero_le _
  | x :: r, m, n, h => by
    rw [List.nodup_cons] at n
    have ih := sub_len (l := r) (m := m.erase x) n.2 fun y hy => by
      have hne : y ≠ x := fun e => n.1 (e ▸ hy)
      exact (List.mem_erase_of_ne hne).mpr (h y (List.mem_cons_of_mem _ hy))
    have hx := h x List.mem_cons_self
    rw [List.length_erase_of_mem hx] at ih
    have := List.length_pos_of_mem hx
    rw [List.length_cons]
    omega
theorem dup_less : ∀ {m : List Int}, ¬ m.Nodup → ∃ m' : List Int, m'.length + 1 = m.length ∧ ∀ k ∈ m, k ∈ m'
  | [], h => absurd .nil h
  | x :: r, h => by
    by_cases hx : x ∈ r
    · exact ⟨r, rfl, fun k hk => (List.mem_cons.mp hk).elim (fun e => e ▸ hx) id⟩
    · have hr : ¬ r.Nodup := fun z => h (List.nodup_cons.mpr ⟨hx, z⟩)
      obtain ⟨m', h1, h2⟩ := dup_less hr
      exact ⟨x :: m', by rw [List.length_cons, List.length_cons, h1], fun k hk => (List.mem_cons.mp hk).elim (fun e => e ▸ List.mem_cons_self) fun z => List.mem_cons_of_mem _ (h2 k z)⟩
theorem nodup_ints {l : List Nat} : (l.map Int.ofNat).Nodup ↔ l.Nodup := by
  induction l with
  | nil => simp
  | cons x r ih =>
    rw [List.map_cons, List.nodup_cons, List.nodup_cons, ih]
    refine and_congr_left fun _ => not_congr ?_
    constructor
    · intro h
      obtain ⟨y, hy, e⟩ := List.mem_map.mp h
      have e : y = x := Int.ofNat.inj e
      exact e ▸ hy
    · intro h
      exact List.mem_map.mpr ⟨x, h, rfl⟩
theorem set_len {ps : List Nat} {ms : List Int} (nd : ms.Nodup) (mem : ∀ k, k ∈ ms ↔ k ∈ ps.map Int.ofNat) : decide ((ms.length : Int) = (ps.length : Int)) = Mb.distinct ps := by
  rw [Bool.eq_iff_iff, decide_eq_true_iff, distinct_iff, ← nodup_ints]
  constructor
  · intro h
    refine Classical.byContradiction fun hn => ?_
    obtain ⟨m', h1, h2⟩ := dup_less hn
    have h3 := sub_len nd fun x hx => h2 x ((mem x).mp hx)
    rw [List.length_map] at h1
    omega
  · intro h
    have h1 := sub_len nd fun x hx => (mem x).mp hx
    have h2 := sub_len h fun x hx => (mem x).mpr hx
    rw [List.length_map] at h1 h2
    omega
/-! ### promises -/
def spAAdd (CC : Addr) (K : PySem.W.Frag) : Sp := fun vs H Q _ => ∃ (c a l : Addr) (rows : List Addr) (s : Hist) (ps : List Nat), vs = [.ref c, .ref a] ∧ CAtL CC H c l rows s.parents ∧ Wf s ∧ SqL K H a (nvs ps) ∧ ps.length ≤ 30000 ∧
  ∀ (H' : Hp) (p : Addr) (rows' : List Addr), CAtL CC H' c l rows' (Wqatak.addOf s ps).1.parents → (∀ r ∈ rows', r ∈ rows ∨ H r = none) → But l H H' → H p = none → H' p = some (.lst (ansV (Wqatak.addOf s ps).2)) → Q (.ref p) H'
def spAMark (CC CM CH : Addr) : Sp := fun vs H Q _ => ∃ (h c m l t : Addr) (rows : List Addr) (s : Hist) (mk cm fo : Nat), vs = [.ref h, nv mk, nv cm, nv fo] ∧ HistAt CC CM CH H h c m l t rows s ∧ Wf s ∧
  ∀ (H' : Hp) (p : Addr), HistAt CC CM CH H' h c m l t rows (Wqatak.markOf s mk cm fo).1 → But t H H' → H p = none → H' p = some (.lst (ansV (Wqatak.markOf s mk cm fo).2)) → Q (.ref p) H'
def spAMarked (CM : Addr) : Sp := fun vs H Q _ => ∃ (m : Addr) (s : Hist) (mk : Nat), vs = [.ref m, nv mk] ∧ MAt CM H m s.marks ∧ Wf s ∧ Tell H Q (Wqatak.told s (.marked mk))
def spAPrune (CC CM CH : Addr) : Sp := fun vs H Q _ => ∃ (h c m l t : Addr) (rows : List Addr) (s : Hist), vs = [.ref h] ∧ HistAt CC CM CH H h c m l t rows s ∧ Wf s ∧
  ∀ (H' : Hp) (p l' t' : Addr) (rows' : List Addr), HistAt CC CM CH H' h c m l' t' rows' (kept s (Mb.marked s)) → H l' = none → H t' = none → (∀ r ∈ rows', H r = none) → (∀ b o, H b = some o → b ≠ c → b ≠ m → H' b = some o) → H p = none →
    H' p = some (.lst (ansV (Wqatak.says ((s.size - (Mb.marked s).length : Nat) : Int)))) → Q (.ref p) H'
def spRowA (CC : Addr) (K : PySem.W.Frag) : Sp := fun vs H Q E => (∃ c a, vs = [.ref c, .int 0, .ref a] ∧ spAAdd CC K [.ref c, .ref a] H Q E) ∨ (∃ c a, vs = [.ref c, .int 4, .ref a] ∧ spQS CC K .best [.ref c, .ref a] H Q E) ∨ (∃ c a, vs = [.ref c, .int 5, .ref a] ∧ spQS CC K .heads [.ref c, .ref a] H Q E)
def spPairA (CC : Addr) : Sp := fun vs H Q E => (∃ c a b, vs = [.ref c, .int 2, a, b] ∧ spQ2 CC .comes [.ref c, a, b] H Q E) ∨ (∃ c a b, vs = [.ref c, .int 3, a, b] ∧ spQ2 CC .steps [.ref c, a, b] H Q E) ∨ (∃ c a b, vs = [.ref c, .int 7, a, b] ∧ spQ2 CC .between [.ref c, a, b] H Q E)
def spTwoA (CC : Addr) (K : PySem.W.Frag) : Sp := fun vs H Q E => (∃ c a b, vs = [.ref c, .int 6, a, b] ∧ spQSS CC K .walk [.ref c, a, b] H Q E) ∨ (∃ c a b, vs = [.ref c, .int 8, a, b] ∧ spQSS CC K .halve [.ref c, a, b] H Q E)
theorem s2_but {r : Addr} {H H1 H2 : Hp} (s : Same H H1) (b : But r H1 H2) : But r H H2 := fun x o e n => b x o (s x o e) n
theorem but_free {r p : Addr} {H H' : Hp} {o : HO} (b : But r H H') (hr : H' r = some o) (hp : H' p = none) : H p = none := by
  cases q : H p with
  | none => rfl
  | some u =>
    rw [b p u q (fun z => by rw [z, hr] at hp; cases hp)] at hp
    cases hp
theorem HistAt.same {CC CM CH : Addr} {H H' : Hp} {h c m l t : Addr} {rows : List Addr} {s : Hist} (A : HistAt CC CM CH H h c m l t rows s) (q : Same H H') : HistAt CC CM CH H' h c m l t rows s :=
  ⟨let ⟨d, e⟩ := A.obj; ⟨d, q _ _ e⟩, A.cc.same q, ⟨let ⟨d, e⟩ := A.mm.obj; ⟨d, q _ _ e⟩, q _ _ A.mm.lst⟩, A.tl, A.tr⟩
section
variable {P : Program} {w : World} {K : PySem.W.Frag} {mg : Str → Option Value} {base : Heap} {CC CM CR CH f : Addr} {fd : FuncData}
theorem scAAdd : FnScope ["commits", "parents"] ["commits", "parents"] (defScope aAdd) := ⟨rfl, rfl, rfl, by decide +kernel, rfl, by decide +kernel, by decide +kernel⟩
theorem ok_aAdd (F : Fun K "answer_add" "answer_add" aAdd f fd) (T : Txt K mg CC CM CR CH) (DA : Df P w K mg base 2 "all_there" ["commits", "members"] (spAll CC K)) (MT : Mt P w K mg base CC 1 "total" ["self"] (spTotal CC)) (MA : Mt P w K mg base CC 1 "add_commit" ["self", "parents"] (spAdd CC K)) :
    FnOk P w K mg base CX0 5 f fd ["commits", "parents"] (spAAdd CC K) := by
  refine F.ok scAAdd (fun vs H Q E h => ?_) (fun cdv A outer s H vs Q E hr h => ?_)
  · obtain ⟨c, a, l, rows, sh, ps, rfl, _⟩ := h
    rfl
  · obtain ⟨c, a, l, rows, sh, ps, rfl, C, W, ha, hlen, k⟩ := h
    obtain ⟨t1, h1⟩ := T.num ("MOST_PARENTS", 8) (by simp)
    obtain ⟨t2, h2⟩ := T.num ("MOST_COMMITS", 128) (by simp)
    refine ⟨_, pss_cons (ps_if (PW.pt (pw_or (pt_cmpR op_gt (pe_callB call_len_seq (by rfl) T.len bt_len (pa_cons (pv 1) pa_nil)) (pe_glob (v := .int 8) (by rfl) h1 ⟨t1, rfl⟩) (nomark _)) (pw_or1 (pt_not (pt_val (pe_df DA (hr.mono (by decide)) (by rfl) (pa_cons (pv 0) (pa_cons (pv 1) pa_nil))))))))
        (pss_one (ps_ret (pe_lst (pa_cons (pe_un un_neg pe_int) pa_nil)))) pss_nil)
      (pss_cons (ps_if (pt_cmp (pc_neI (pe_callB call_lenSet (by rfl) T.len bt_len (pa_cons (pe_callTy (call_set rfl) (by rfl) T.set bt_set (pa_cons (pv 1) pa_nil)) pa_nil)) (pe_callB call_len_seq (by rfl) T.len bt_len (pa_cons (pv 1) pa_nil))))
        (pss_one (ps_ret (pe_lst (pa_cons (pe_un un_neg pe_int) pa_nil)))) pss_nil)
      (pss_cons (ps_if (pt_cmpR op_ge (pe_mt0 MT T.cC (hr.mono (by decide)) (pv 0)) (pe_glob (v := .int 128) (by rfl) h2 ⟨t2, rfl⟩) (nomark _)) (pss_one (ps_ret (pe_lst (pa_cons (pe_un un_neg pe_int) pa_nil)))) pss_nil)
      (pss_one (ps_ret (pe_lst (pa_cons (pe_mt MA T.cC (hr.mono (by decide)) (pv 0) (pa_cons (pv 1) pa_nil)) pa_nil)))))), ?_⟩
    -- a refusal
    have bad : ∀ (H1 : Hp) (p : Addr) (z : Int), Same H H1 → H1 p = none → Wqatak.addOf sh ps = (sh, Wqatak.says z) → Q (.ref p) (upd H1 p (.lst [.int z])) := fun H1 p z s1 hp e => by
      have sp := s1.trans (same_new hp (o := .lst [.int z]))
      rw [e] at k
      exact k _ p rows (C.same sp) (fun r hr => .inl hr) (fun b o q _ => sp b o q) (s1.free hp) (by rw [upd_same]; rfl)
    refine ⟨_, rfl, a, _, rfl, .inl ha, _, _, rfl, rfl, _, rfl, ?_⟩
    rw [nvs_len]
    refine ite2 (fun g1 => ?_) (fun g1 => ?_)
    · have g1 : (8 : Int) < (ps.length : Int) := of_decide_eq_true g1
      refine iteT ⟨_, rfl, (by show 1 ≤ sizeLine; decide), fun p hp => bad H p (-1) (Same.refl H) hp ?_⟩
      unfold Wqatak.addOf
      rw [if_pos (.inl (show PARENTS < ps.length by unfold PARENTS; omega))]
      rfl
    · have g1 : ¬ (8 : Int) < (ps.length : Int) := fun z => g1 (decide_eq_true z)
      have g8 : ¬ PARENTS < ps.length := by unfold PARENTS; omega
      refine ⟨_, rfl, _, rfl, c, a, sh, ps, rfl, ⟨l, rows, C⟩, ha, hlen, fun H1 s1 => ⟨_, rfl, ?_⟩⟩
      cases e : ps.all sh.has with
      | false =>
        refine iteT ⟨_, rfl, (by show 1 ≤ sizeLine; decide), fun p hp => bad H1 p (-1) s1 hp ?_⟩
        unfold Wqatak.addOf
        rw [if_pos (.inr (.inl e))]
        rfl
      | true =>
        refine iteF ⟨_, rfl, a, ps.map Int.ofNat, rfl, by rw [← nvs_ints]; exact s1.seq ha, by rw [List.length_map]; unfold PARENTS at g8; omega, fun z hz => ?_⟩
        refine ⟨z, _, rfl, upd_same, fun ms nd mem => ?_⟩
        have s2 : Same H (upd H1 z (.ext (SetX w z (ps.map Int.ofNat)))) := s1.trans (same_new hz)
        refine ⟨_, rfl, a, _, rfl, .inl (s2.seq ha), _, _, rfl, rfl, !Mb.distinct ps, (by show V.bl (!decide ((ms.length : Int) = (((nvs ps).length : Nat) : Int))) = _; rw [nvs_len, set_len nd mem]), ?_⟩
        cases e2 : Mb.distinct ps with
        | false =>
          refine iteT ⟨_, rfl, (by show 1 ≤ sizeLine; decide), fun p hp => bad _ p (-1) s2 hp ?_⟩
          unfold Wqatak.addOf
          rw [if_pos (.inr (.inr e2))]
          rfl
        | true =>
          have hno : ¬ (PARENTS < ps.length ∨ ps.all sh.has = false ∨ Mb.distinct ps = false) := by
            rw [e, e2]
            rintro (z | z | z)
            · exact g8 z
            · cases z
            · cases z
          have C2 := C.same s2
          obtain ⟨dc, ho⟩ := C2.obj
          refine iteF ⟨_, rfl, c, dc, _, rfl, ho, look1_no _ (by decide +kernel), c, sh.parents, rfl, ⟨l, rows, C2⟩, _, _, rfl, rfl, _, rfl, ?_⟩
          refine ite2 (fun g2 => ?_) (fun g2 => ?_)
          · have g2 : (128 : Int) ≤ (sh.parents.length : Int) := of_decide_eq_true g2
            refine ⟨_, rfl, (by show 1 ≤ sizeLine; decide), fun p hp => bad _ p (-2) s2 hp ?_⟩
            unfold Wqatak.addOf
            rw [if_neg hno, if_neg (show ¬ sh.size < COMMITS by unfold COMMITS Hist.size; omega)]
            rfl
          · have g2 : ¬ (128 : Int) ≤ (sh.parents.length : Int) := fun z => g2 (decide_eq_true z)
            have eA : Wqatak.addOf sh ps = ({ sh with parents := sh.parents ++ [ps] }, Wqatak.says (sh.size : Nat)) := by
              unfold Wqatak.addOf
              rw [if_neg hno, if_pos (show sh.size < COMMITS by unfold COMMITS Hist.size; omega)]
            rw [eA] at k
            refine ⟨_, rfl, c, dc, _, rfl, ho, look1_no _ (by decide +kernel), _, rfl, c, a, l, rows, sh.parents, ps, rfl, C2, s2.seq ha, by omega, fun H3 r C3 hr3 b3 => ?_⟩
            refine ⟨(by show 1 ≤ sizeLine; decide), fun p hp => ?_⟩
            refine k _ p (rows ++ [r]) (C3.same (same_new hp)) (fun r' hr' => ?_) (fun b o q hb => same_new hp _ _ (b3 b o (s2 b o q) hb)) (but_free (s2_but s2 b3) C3.lst hp) (by rw [upd_same]; rfl)
            rcases List.mem_append.mp hr' with z | z
            · exact .inl z
            · have e : r' = r := by simpa using z
              subst e
              exact .inr (s2.free hr3)
theorem scAMarked : FnScope ["marks", "mark", "target"] ["marks", "mark"] (defScope aMarked) := ⟨rfl, rfl, rfl, by decide +kernel, rfl, by decide +kernel, by decide +kernel⟩
theorem ok_aMarked (F : Fun K "answer_marked" "answer_marked" aMarked f fd) (T : Txt K mg CC CM CR CH) (MT : Mt P w K mg base CM 1 "target_of" ["self", "mark"] (spTarget CM)) : FnOk P w K mg base CX0 5 f fd ["marks", "mark"] (spAMarked CM) := by
  refine F.ok scAMarked (fun vs H Q E h => ?_) (fun cdv A outer s H vs Q E hr h => ?_)
  · obtain ⟨m, sh, mk, rfl, _⟩ := h
    rfl
  · obtain ⟨m, sh, mk, rfl, M, W, k⟩ := h
    have nd := scAMarked.nd
    obtain ⟨t1, h1⟩ := T.num ("HOW_MANY_MARKS", 64) (by simp)
    refine ⟨_, pss_cons (ps_if (pt_cmpR op_ge (pv 1) (pe_glob (v := .int 64) (by rfl) h1 ⟨t1, rfl⟩) (nomark _)) (pss_one (ps_ret (pe_lst (pa_cons (pe_un un_neg pe_int) pa_nil)))) pss_nil)
      (pss_cons (ps_set (i := 2) nd rfl (Or.inl rfl) (pe_mt MT T.cM (hr.mono (by decide)) (pv 0) (pa_cons (pv 1) pa_nil)))
      (pss_cons (ps_if (pt_cmp (pc_isN (pv 2))) (pss_one (ps_ret (pe_lst (pa_cons (pe_un un_neg pe_int) pa_nil)))) pss_nil)
      (pss_one (ps_ret (pe_lst (pa_cons (pv 2) pa_nil)))))), ?_⟩
    refine ⟨_, rfl, _, _, rfl, rfl, _, rfl, ?_⟩
    have hl := W.mlen
    have ek : Wqatak.told sh (.marked mk) = (match sh.marks[mk]? with | some (some c) => Wqatak.says (c : Nat) | some none => Wqatak.NO | none => Wqatak.BAD) := rfl
    rw [ek] at k
    refine ite2 (fun g => ?_) (fun g => ?_)
    · have g : (64 : Int) ≤ (mk : Int) := of_decide_eq_true g
      rw [List.getElem?_eq_none (by omega)] at k
      exact ⟨_, rfl, (by show 1 ≤ sizeLine; decide), k.one rfl⟩
    · have g : ¬ (64 : Int) ≤ (mk : Int) := fun z => g (decide_eq_true z)
      have hmk : mk < sh.marks.length := by omega
      obtain ⟨t, M1⟩ := id M
      obtain ⟨dm, ho⟩ := M1.obj
      have e1 : sh.marks[mk]? = some (sh.marks.getD mk none) := by
        rw [List.getD_eq_getElem?_getD, List.getElem?_eq_getElem hmk]
        rfl
      rw [e1] at k
      refine ⟨_, rfl, m, dm, _, rfl, ho, look1_no _ (by decide +kernel), _, rfl, m, sh.marks, mk, rfl, M, hmk, ?_⟩
      cases e : sh.marks.getD mk none with
      | none =>
        rw [e] at k
        exact ⟨_, rfl, _, rfl, iteT ⟨_, rfl, (by show 1 ≤ sizeLine; decide), k.one rfl⟩⟩
      | some z =>
        rw [e] at k
        exact ⟨_, rfl, _, rfl, iteF ⟨_, rfl, (by show 1 ≤ sizeLine; decide), k.one rfl⟩⟩
theorem scAMark : FnScope ["history", "mark", "commit", "force", "target"] ["history", "mark", "commit", "force"] (defScope aMark) := ⟨rfl, rfl, rfl, by decide +kernel, rfl, by decide +kernel, by decide +kernel⟩
theorem ok_aMark (F : Fun K "answer_mark" "answer_mark" aMark f fd) (T : Txt K mg CC CM CR CH) (DA : Df P w K mg base 2 "all_there" ["commits", "members"] (spAll CC K)) (MT : Mt P w K mg base CM 1 "target_of" ["self", "mark"] (spTarget CM)) (MF : Mt P w K mg base CC 2 "comes_from" ["self", "commit", "ancestor"] (spComes CC)) (MP : Mt P w K mg base CM 1 "point" ["self", "mark", "commit"] (spPoint CM)) :
    FnOk P w K mg base CX0 5 f fd ["history", "mark", "commit", "force"] (spAMark CC CM CH) := by
  refine F.ok scAMark (fun vs H Q E h => ?_) (fun cdv A outer s H vs Q E hr h => ?_)
  · obtain ⟨h, c, m, l, t, rows, sh, mk, cm, fo, rfl, _⟩ := h
    rfl
  · obtain ⟨h, c, m, l, t, rows, sh, mk, cm, fo, rfl, A, W, k⟩ := h
    have nd := scAMark.nd
    obtain ⟨t1, h1⟩ := T.num ("HOW_MANY_MARKS", 64) (by simp)
    refine ⟨_, pss_cons (ps_if (PW.pt (pw_or (pt_cmpR op_ge (pv 1) (pe_glob (v := .int 64) (by rfl) h1 ⟨t1, rfl⟩) (nomark _)) (pw_or1 (pt_not (pt_val (pe_df DA (hr.mono (by decide)) (by rfl) (pa_cons (pe_fld (pv 0) rfl) (pa_cons (pe_lst (pa_cons (pv 2) pa_nil)) pa_nil))))))))
        (pss_one (ps_ret (pe_lst (pa_cons (pe_un un_neg pe_int) pa_nil)))) pss_nil)
      (pss_cons (ps_set (i := 4) nd rfl (Or.inl rfl) (pe_mt MT T.cM (hr.mono (by decide)) (pe_fld (pv 0) rfl) (pa_cons (pv 1) pa_nil)))
      (pss_cons (ps_if (PW.pt (pw_and (pt_cmp (pc_eqI (pv 3) pe_int)) (pw_and (pt_cmp (pc_notN (pv 4))) (pw_and1 (pt_not (pt_val (pe_mt MF T.cC (hr.mono (by decide)) (pe_fld (pv 0) rfl) (pa_cons (pv 2) (pa_cons (pv 4) pa_nil)))))))))
        (pss_one (ps_ret (pe_lst (pa_cons (pe_un un_neg pe_int) pa_nil)))) pss_nil)
      (pss_cons (ps_expr (pe_mt MP T.cM (hr.mono (by decide)) (pe_fld (pv 0) rfl) (pa_cons (pv 1) (pa_cons (pv 2) pa_nil))))
      (pss_one (ps_ret (pe_lst (pa_cons pe_int pa_nil))))))), ?_⟩
    obtain ⟨dh, hh⟩ := A.obj
    have hl := W.mlen
    -- a refusal
    have bad : ∀ (H1 : Hp) (p : Addr) (z : Int), Same H H1 → H1 p = none → Wqatak.markOf sh mk cm fo = (sh, Wqatak.says z) → Q (.ref p) (upd H1 p (.lst [.int z])) := fun H1 p z s1 hp e => by
      have sp := s1.trans (same_new hp (o := .lst [.int z]))
      rw [e] at k
      exact k _ p (A.same sp) (fun b o q _ => sp b o q) (s1.free hp) (by rw [upd_same]; rfl)
    refine ⟨_, rfl, _, _, rfl, rfl, _, rfl, ?_⟩
    refine ite2 (fun g => ?_) (fun g => ?_)
    · have g : (64 : Int) ≤ (mk : Int) := of_decide_eq_true g
      refine iteT ⟨_, rfl, (by show 1 ≤ sizeLine; decide), fun p hp => bad H p (-1) (Same.refl H) hp ?_⟩
      unfold Wqatak.markOf
      rw [if_pos (.inl (show MARKS ≤ mk by unfold MARKS; omega))]
      rfl
    · have g : ¬ (64 : Int) ≤ (mk : Int) := fun z => g (decide_eq_true z)
      have hmk : mk < sh.marks.length := by omega
      refine ⟨_, rfl, h, CH, dh, _, _, rfl, hh, T.cH, T.nC, look2a _ _ _ _, _, rfl, (by show 1 ≤ sizeLine; decide), fun q hq => ?_⟩
      have A1 := A.same (same_new hq (o := .lst [nv cm]))
      refine ⟨c, q, sh, [cm], rfl, ⟨l, rows, A1.cc⟩, SqL.of upd_same, by simp, fun H2 s2' => ⟨_, rfl, ?_⟩⟩
      have s2 : Same H H2 := (same_new hq).trans s2'
      have e1 : [cm].all sh.has = sh.has cm := by rw [List.all_cons, List.all_nil, Bool.and_true]
      rw [e1]
      cases e : sh.has cm with
      | false =>
        refine iteT ⟨_, rfl, (by show 1 ≤ sizeLine; decide), fun p hp => bad H2 p (-1) s2 hp ?_⟩
        unfold Wqatak.markOf
        rw [if_pos (.inr e)]
        rfl
      | true =>
        have hcm : cm < sh.parents.length := has_lt.mp e
        have hno : ¬ (MARKS ≤ mk ∨ sh.has cm = false) := by
          rw [e]
          rintro (z | z)
          · unfold MARKS at z
            omega
          · cases z
        have A2 := A.same s2
        obtain ⟨dh2, hh2⟩ := A2.obj
        obtain ⟨dm2, hm2⟩ := A2.mm.obj
        refine iteF ⟨_, rfl, h, CH, dh2, _, _, rfl, hh2, T.cH, T.nM, look2b _ _ (by decide +kernel), m, dm2, _, rfl, hm2, look1_no _ (by decide +kernel), _, rfl, m, sh.marks, mk, rfl, ⟨t, A2.mm⟩, hmk, ?_⟩
        -- the mark is moved
        have fin : ∀ (H3 : Hp), Same H H3 → Wqatak.markOf sh mk cm fo = ({ sh with marks := sh.marks.set mk (some cm) }, Wqatak.says 0) →
            ∀ p, (upd H3 t (.lst ((sh.marks.set mk (some cm)).map ov))) p = none → Q (.ref p) (upd (upd H3 t (.lst ((sh.marks.set mk (some cm)).map ov))) p (.lst [V.int 0])) := fun H3 s3 eM p hp => by
          have A3 := A.same s3
          obtain ⟨dh3, hh3⟩ := A3.obj
          obtain ⟨dm3, hm3⟩ := A3.mm.obj
          rw [eM] at k
          have hth : h ≠ t := ne_of hh3 A3.mm.lst (by intro z; cases z)
          have htm : m ≠ t := ne_of hm3 A3.mm.lst (by intro z; cases z)
          obtain ⟨dc3, hc3⟩ := A3.cc.obj
          have htc : c ≠ t := ne_of hc3 A3.mm.lst (by intro z; cases z)
          have A4 : HistAt CC CM CH (upd H3 t (.lst ((sh.marks.set mk (some cm)).map ov))) h c m l t rows { sh with marks := sh.marks.set mk (some cm) } :=
            ⟨⟨dh3, by rw [upd_ne hth]; exact hh3⟩, ⟨⟨dc3, by rw [upd_ne htc]; exact hc3⟩, by rw [upd_ne (Ne.symm A.tl)]; exact A3.cc.lst, A3.cc.rws.keep fun r hr o q => by
              have hrt : r ≠ t := fun z => A.tr (z ▸ hr)
              rw [upd_ne hrt]
              exact q, A3.cc.out⟩, ⟨⟨dm3, by rw [upd_ne htm]; exact hm3⟩, upd_same⟩, A.tl, A.tr⟩
          exact k _ p (A4.same (same_new hp)) (fun b o q hb => same_new hp _ _ (by rw [upd_ne hb]; exact s3 b o q)) (but_free (s2_but s3 (But.upd _ _ _)) upd_same hp) (by rw [upd_same]; rfl)
        have e64 : decide ((fo : Int) = 0) = decide (fo = 0) := by
          by_cases z : fo = 0
          · rw [decide_eq_true z, decide_eq_true (by omega)]
          · rw [decide_eq_false z, decide_eq_false (by omega)]
        refine ⟨_, rfl, _, _, rfl, rfl, decide (fo = 0), congrArg V.bl e64, ?_⟩
        refine ite2 (fun gf => ?_) (fun gf => ?_)
        · have gf : fo = 0 := of_decide_eq_true gf
          cases ez : sh.marks.getD mk none with
          | none =>
            refine ⟨_, rfl, _, rfl, iteF (iteF ?_)⟩
            refine ⟨_, rfl, h, CH, dh2, _, _, rfl, hh2, T.cH, T.nM, look2b _ _ (by decide +kernel), m, dm2, _, rfl, hm2, look1_no _ (by decide +kernel), _, rfl, _, rfl, m, t, sh.marks, mk, cm, rfl, A2.mm, hmk, (by show 1 ≤ sizeLine; decide), fin H2 s2 ?_⟩
            unfold Wqatak.markOf
            rw [if_neg hno, ez]
            exact if_neg (by rintro ⟨_, z⟩; cases z)
          | some y =>
            have hy : y < sh.parents.length := W.mks mk y (by
              rw [List.getD_eq_getElem?_getD, List.getElem?_eq_getElem hmk] at ez
              rw [List.getElem?_eq_getElem hmk]
              exact congrArg some ez)
            obtain ⟨dc2, hc2⟩ := A2.cc.obj
            refine ⟨_, rfl, _, rfl, iteT ⟨_, rfl, h, CH, dh2, _, _, rfl, hh2, T.cH, T.nC, look2a _ _ _ _, c, dc2, _, rfl, hc2, look1_no _ (by decide +kernel), _, rfl, _, rfl, c, sh.parents, cm, y, rfl, ⟨l, rows, A2.cc⟩, hcm, hy, gd_wf W, fun H3 s3 => ⟨_, rfl, ?_⟩⟩⟩
            have e3 : (reached sh.parents [cm]).getD y false = true ↔ (Mb.steps sh cm y).isSome = true := by
              rw [reached_iff W.low (one_lt hcm), steps_some sh W.low hcm]
              simp
            have eb : Wqatak.markOf sh mk cm fo = if fo = 0 ∧ (Mb.steps sh cm y).isNone = true then (sh, Wqatak.NO) else ({ sh with marks := sh.marks.set mk (some cm) }, Wqatak.says 0) := by
              unfold Wqatak.markOf
              rw [if_neg hno, ez]
            cases e4 : (reached sh.parents [cm]).getD y false with
            | true =>
              have A3 := A.same (s2.trans s3)
              obtain ⟨dh3, hh3⟩ := A3.obj
              obtain ⟨dm3, hm3⟩ := A3.mm.obj
              refine iteF ⟨_, rfl, h, CH, dh3, _, _, rfl, hh3, T.cH, T.nM, look2b _ _ (by decide +kernel), m, dm3, _, rfl, hm3, look1_no _ (by decide +kernel), _, rfl, _, rfl, m, t, sh.marks, mk, cm, rfl, A3.mm, hmk, (by show 1 ≤ sizeLine; decide), fin H3 (s2.trans s3) ?_⟩
              rw [eb]
              refine if_neg ?_
              rintro ⟨_, z⟩
              have := e3.mp e4
              cases q : Mb.steps sh cm y with
              | none => rw [q] at this; cases this
              | some n => rw [q] at z; cases z
            | false =>
              refine iteT ⟨_, rfl, (by show 1 ≤ sizeLine; decide), fun p hp => bad H3 p (-2) (s2.trans s3) hp ?_⟩
              rw [eb]
              refine if_pos ⟨gf, ?_⟩
              cases q : Mb.steps sh cm y with
              | none => rfl
              | some n =>
                have := e3.mpr (by rw [q]; rfl)
                rw [e4] at this
                cases this
        · have gf : ¬ fo = 0 := fun z => gf (decide_eq_true z)
          refine iteF ⟨_, rfl, h, CH, dh2, _, _, rfl, hh2, T.cH, T.nM, look2b _ _ (by decide +kernel), m, dm2, _, rfl, hm2, look1_no _ (by decide +kernel), _, rfl, _, rfl, m, t, sh.marks, mk, cm, rfl, A2.mm, hmk, (by show 1 ≤ sizeLine; decide), fin H2 s2 ?_⟩
          unfold Wqatak.markOf
          rw [if_neg hno]
          exact if_neg (fun z => gf z.1)
end
end Pr
end
section
set_option Elab.async false
set_option linter.all false
set_option maxRecDepth 100000
set_option maxHeartbeats 4000000
namespace Pr
open PySem PySem.Spec PyProof.Rows L2 Mb Mm
theorem f12_ne {f g h : Str} {v u x : V} : f1 f v ≠ f2 g u h x := fun e => by
  have := congrArg List.length e
  simp [f1, f2] at this
theorem f1_ne {f g : Str} {v u : V} (h : ¬ f = g) : f1 f v ≠ f1 g u := fun e => by
  unfold f1 at e
  injection e with e _
  injection e with e _
  exact h e
theorem f2_ne {f g f' g' : Str} {v u v' u' : V} (h : ¬ f = f') : f2 f v g u ≠ f2 f' v' g' u' := fun e => by
  unfold f2 at e
  injection e with e _
  injection e with e _
  exact h e
theorem ins_ne {C C' d d' : Addr} {fs fs' : List (Str × V)} (h : fs ≠ fs') : HO.ins C d fs ≠ HO.ins C' d' fs' := fun e => by
  injection e with _ _ e
  exact h e
theorem mem_starts {ms : List (Option Nat)} {a : Nat} : a ∈ ms.filterMap id ↔ some a ∈ ms := by
  rw [List.mem_filterMap]
  constructor
  · rintro ⟨x, h1, h2⟩
    have e : x = some a := h2
    exact e ▸ h1
  · intro h
    exact ⟨some a, h, rfl⟩
theorem starts_lt {s : Hist} (W : Wf s) : ∀ x ∈ s.marks.filterMap id, x < s.parents.length := fun x hx => by
  obtain ⟨i, hi⟩ := List.getElem?_of_mem (mem_starts.mp hx)
  exact W.mks i x hi
theorem keepL_marked {s : Hist} (W : Wf s) : keepL s.parents (s.marks.filterMap id) = Mb.marked s := by
  refine sorted_ext (filter_sorted (range_sorted _) _) (marked_sorted W) fun x => ?_
  rw [mem_marked W, keepL, List.mem_filter, reached_iff W.low (starts_lt W)]
  constructor
  · rintro ⟨_, a, h1, h2⟩
    exact ⟨a, mem_starts.mp h1, h2⟩
  · rintro ⟨a, h1, h2⟩
    have h3 := starts_lt W a (mem_starts.mpr h1)
    have h4 := h2.le W.low
    exact ⟨List.mem_range.mpr (by omega), a, mem_starts.mpr h1, h2⟩
theorem kept_mirror {s : Hist} (W : Wf s) : Hist.mk (keepP s.parents (s.marks.filterMap id) s.parents.length) (s.marks.map fun x => x.bind fun c => (newN s.parents (s.marks.filterMap id) s.parents.length).getD c none) = kept s (Mb.marked s) := by
  unfold kept
  rw [← keepL_marked W]
  congr 1
  refine List.map_congr_left fun x hx => ?_
  cases x with
  | none => rfl
  | some c =>
    have hc := starts_lt W c (mem_starts.mpr hx)
    show (newN s.parents (s.marks.filterMap id) s.parents.length).getD c none = some _
    rw [newN_at _ _ _ hc, if_pos ⟨hc, (reached_iff W.low (starts_lt W) c).mpr ⟨c, mem_starts.mpr hx, .refl _⟩⟩]
section
variable {P : Program} {w : World} {K : PySem.W.Frag} {mg : Str → Option Value} {base : Heap} {CC CM CR CH f : Addr} {fd : FuncData}
theorem scAPrune : FnScope ["history", "total", "new_numbers"] ["history"] (defScope aPrune) := ⟨rfl, rfl, rfl, by decide +kernel, rfl, by decide +kernel, by decide +kernel⟩
theorem ok_aPrune (F : Fun K "answer_prune" "answer_prune" aPrune f fd) (T : Txt K mg CC CM CR CH) (MT : Mt P w K mg base CC 1 "total" ["self"] (spTotal CC)) (MK : Mt P w K mg base CC 2 "keep_reached" ["self", "starts"] (spKeep CC K)) (MM : Mt P w K mg base CM 1 "marked_commits" ["self"] (spMarked CM)) (MR : Mt P w K mg base CM 1 "renumber" ["self", "new_numbers"] (spRenum CM K)) :
    FnOk P w K mg base CX0 5 f fd ["history"] (spAPrune CC CM CH) := by
  refine F.ok scAPrune (fun vs H Q E h => ?_) (fun cdv A outer s H vs Q E hr h => ?_)
  · obtain ⟨h, c, m, l, t, rows, sh, rfl, _⟩ := h
    rfl
  · obtain ⟨h, c, m, l, t, rows, sh, rfl, A, W, k⟩ := h
    have nd := scAPrune.nd
    obtain ⟨dh, hh⟩ := A.obj
    obtain ⟨dc, hc⟩ := A.cc.obj
    obtain ⟨dm, hm⟩ := A.mm.obj
    refine ⟨_, pss_cons (ps_set (i := 1) nd rfl (Or.inl rfl) (pe_mt0 MT T.cC (hr.mono (by decide)) (pe_fld (pv 0) rfl)))
      (pss_cons (ps_set (i := 2) nd rfl (Or.inl rfl) (pe_mt MK T.cC (hr.mono (by decide)) (pe_fld (pv 0) rfl) (pa_cons (pe_mt0 MM T.cM (hr.mono (by decide)) (pe_fld (pv 0) rfl)) pa_nil)))
      (pss_cons (ps_expr (pe_mt MR T.cM (hr.mono (by decide)) (pe_fld (pv 0) rfl) (pa_cons (pv 2) pa_nil)))
      (pss_one (ps_ret (pe_lst (pa_cons (pe_op op_sub (pv 1) (pe_mt0 MT T.cC (hr.mono (by decide)) (pe_fld (pv 0) rfl))) pa_nil)))))), ?_⟩
    refine ⟨_, rfl, h, CH, dh, _, _, rfl, hh, T.cH, T.nC, look2a _ _ _ _, c, dc, _, rfl, hc, look1_no _ (by decide +kernel), c, sh.parents, rfl, ⟨l, rows, A.cc⟩, ?_⟩
    refine ⟨_, rfl, h, CH, dh, _, _, rfl, hh, T.cH, T.nC, look2a _ _ _ _, c, dc, _, rfl, hc, look1_no _ (by decide +kernel), _, rfl, h, CH, dh, _, _, rfl, hh, T.cH, T.nM, look2b _ _ (by decide +kernel), m, dm, _, rfl, hm, look1_no _ (by decide +kernel),
      m, sh.marks, rfl, ⟨t, A.mm⟩, Nat.le_of_eq W.mlen, fun H1 p1 s1 hp1 h1 => ?_⟩
    have A1 := A.same s1
    refine ⟨c, p1, sh.parents, _, rfl, ⟨l, rows, A1.cc⟩, SqL.of h1, starts_lt W, gd_wf W, fun H2 p2 l2 rows2 C2 hl2 hr2 b2 hp2 h2 => ?_⟩
    have hch : h ≠ c := ne_of hh hc (ins_ne (Ne.symm f12_ne))
    have hcm : m ≠ c := ne_of hm hc (ins_ne (f1_ne (by decide +kernel)))
    obtain ⟨dh1, hh1⟩ := A1.obj
    obtain ⟨dm1, hm1⟩ := A1.mm.obj
    obtain ⟨dc1, hc1⟩ := A1.cc.obj
    have hh2 := b2 _ _ hh1 hch
    have hm2 := b2 _ _ hm1 hcm
    have htc : t ≠ c := ne_of A1.mm.lst hc1 (by intro z; cases z)
    have ht2 := b2 _ _ A1.mm.lst htc
    refine ⟨_, rfl, h, CH, dh1, _, _, rfl, hh2, T.cH, T.nM, look2b _ _ (by decide +kernel), m, dm1, _, rfl, hm2, look1_no _ (by decide +kernel), _, rfl, m, p2, sh.marks, _, rfl, ⟨t, ⟨dm1, hm2⟩, ht2⟩, Nat.le_of_eq W.mlen, SqL.of h2, ?_, fun H3 t3 M3 ht3 b3 => ?_⟩
    · intro z hz
      rw [newN_length]
      exact starts_lt W z (mem_starts.mpr hz)
    obtain ⟨dc2, hc2⟩ := C2.obj
    have hhm : h ≠ m := ne_of hh hm (ins_ne (Ne.symm f12_ne))
    have hlm : l2 ≠ m := ne_of C2.lst hm2 (by intro z; cases z)
    have hrm : ∀ r ∈ rows2, r ≠ m := fun r hr z => by
      have := hr2 r hr
      rw [z, hm1] at this
      cases this
    have C3 : CAtL CC H3 c l2 rows2 (keepP sh.parents (sh.marks.filterMap id) sh.parents.length) := ⟨⟨dc2, b3 _ _ hc2 (Ne.symm hcm)⟩, b3 _ _ C2.lst hlm, C2.rws.keep fun r hr o q => b3 _ _ q (hrm r hr), C2.out⟩
    have A3 : HistAt CC CM CH H3 h c m l2 t3 rows2 (kept sh (Mb.marked sh)) := by
      rw [← kept_mirror W]
      refine ⟨⟨dh1, b3 _ _ hh2 hhm⟩, C3, M3, fun z => ?_, fun z => ?_⟩
      · rw [z, C2.lst] at ht3
        cases ht3
      · obtain ⟨i, hi⟩ := List.getElem?_of_mem z
        have hi' : i < (keepP sh.parents (sh.marks.filterMap id) sh.parents.length).length := by
          rw [← C2.rws.len]
          exact (List.getElem?_eq_some_iff.mp hi).1
        have := C2.rws.at_ i t3 _ hi (List.getElem?_eq_getElem hi')
        rw [this] at ht3
        cases ht3
    obtain ⟨dh3, hh3⟩ := A3.obj
    obtain ⟨dc3, hc3⟩ := A3.cc.obj
    refine ⟨_, rfl, _, rfl, h, CH, dh3, _, _, rfl, hh3, T.cH, T.nC, look2a _ _ _ _, c, dc3, _, rfl, hc3, look1_no _ (by decide +kernel), c, _, rfl, ⟨l2, rows2, A3.cc⟩, _, _, rfl, rfl, (by show 1 ≤ sizeLine; decide), fun p hp => ?_⟩
    have b13 : ∀ b o, H b = some o → b ≠ c → b ≠ m → H3 b = some o := fun b o q n1 n2 => b3 _ _ (b2 _ _ (s1 _ _ q) n1) n2
    have ht0 : H t3 = none := by
      cases q : H t3 with
      | none => rfl
      | some o =>
        by_cases e1 : t3 = c
        · rw [e1, hc2] at ht3
          cases ht3
        · rw [b2 _ _ (s1 _ _ q) e1] at ht3
          cases ht3
    have hp0 : H p = none := by
      cases q : H p with
      | none => rfl
      | some o =>
        by_cases e1 : p = c
        · rw [e1, hc3] at hp
          cases hp
        · obtain ⟨dm3, hm3⟩ := A3.mm.obj
          by_cases e2 : p = m
          · rw [e2, hm3] at hp
            cases hp
          · rw [b13 p o q e1 e2] at hp
            cases hp
    refine k _ p l2 t3 rows2 (A3.same (same_new hp)) (s1.free hl2) ht0 (fun r hr => s1.free (hr2 r hr)) (fun b o q n1 n2 => same_new hp _ _ (b13 b o q n1 n2)) hp0 ?_
    rw [upd_same]
    refine congrArg (fun z => some (HO.lst [V.int z])) ?_
    have hlen : (kept sh (Mb.marked sh)).parents.length = (Mb.marked sh).length := by
      unfold kept
      rw [List.length_map]
    have hle : (Mb.marked sh).length ≤ sh.parents.length := nodup_len (marked_sorted W) marked_lt
    rw [hlen]
    show _ = ((sh.parents.length - (Mb.marked sh).length : Nat) : Int)
    omega
theorem scARow : FnScope ["commits", "call", "row"] ["commits", "call", "row"] (defScope aRow) := ⟨rfl, rfl, rfl, by decide +kernel, rfl, by decide +kernel, by decide +kernel⟩
theorem ok_aRow (F : Fun K "answer_of_row" "answer_of_row" aRow f fd) (T : Txt K mg CC CM CR CH) (D1 : Df P w K mg base 5 "answer_add" ["commits", "parents"] (spAAdd CC K)) (D2 : Df P w K mg base 5 "answer_best" ["commits", "members"] (spQS CC K .best)) (D3 : Df P w K mg base 5 "answer_heads" ["commits", "members"] (spQS CC K .heads)) :
    FnOk P w K mg base CX0 6 f fd ["commits", "call", "row"] (spRowA CC K) := by
  refine F.ok scARow (fun vs H Q E h => ?_) (fun cdv A outer s H vs Q E hr h => ?_)
  · rcases h with ⟨c, a, rfl, _⟩ | ⟨c, a, rfl, _⟩ | ⟨c, a, rfl, _⟩ <;> rfl
  · obtain ⟨t1, h1⟩ := T.num ("ADD", 0) (by simp)
    obtain ⟨t2, h2⟩ := T.num ("BEST", 4) (by simp)
    refine ⟨_, pss_cons (ps_if (pt_cmp (pc_eqI (pv 1) (pe_glob (v := .int 0) (by rfl) h1 ⟨t1, rfl⟩))) (pss_one (ps_ret (pe_df D1 hr (by rfl) (pa_cons (pv 0) (pa_cons (pv 2) pa_nil))))) pss_nil)
      (pss_cons (ps_if (pt_cmp (pc_eqI (pv 1) (pe_glob (v := .int 4) (by rfl) h2 ⟨t2, rfl⟩))) (pss_one (ps_ret (pe_df D2 hr (by rfl) (pa_cons (pv 0) (pa_cons (pv 2) pa_nil))))) pss_nil)
      (pss_one (ps_ret (pe_df D3 hr (by rfl) (pa_cons (pv 0) (pa_cons (pv 2) pa_nil)))))), ?_⟩
    rcases h with ⟨c, a, rfl, h⟩ | ⟨c, a, rfl, h⟩ | ⟨c, a, rfl, h⟩
    · exact ⟨_, rfl, _, _, rfl, rfl, true, rfl, iteT ⟨_, rfl, _, rfl, h⟩⟩
    · exact ⟨_, rfl, _, _, rfl, rfl, false, rfl, iteF ⟨_, rfl, _, _, rfl, rfl, true, rfl, iteT ⟨_, rfl, _, rfl, h⟩⟩⟩
    · exact ⟨_, rfl, _, _, rfl, rfl, false, rfl, iteF ⟨_, rfl, _, _, rfl, rfl, false, rfl, iteF ⟨_, rfl, _, rfl, h⟩⟩⟩
theorem scAPair : FnScope ["commits", "call", "a", "b"] ["commits", "call", "a", "b"] (defScope aPair) := ⟨rfl, rfl, rfl, by decide +kernel, rfl, by decide +kernel, by decide +kernel⟩
theorem ok_aPair (F : Fun K "answer_of_pair" "answer_of_pair" aPair f fd) (T : Txt K mg CC CM CR CH) (D1 : Df P w K mg base 5 "answer_comes_from" ["commits", "a", "b"] (spQ2 CC .comes)) (D2 : Df P w K mg base 5 "answer_steps" ["commits", "a", "b"] (spQ2 CC .steps)) (D3 : Df P w K mg base 5 "answer_between" ["commits", "a", "b"] (spQ2 CC .between)) :
    FnOk P w K mg base CX0 6 f fd ["commits", "call", "a", "b"] (spPairA CC) := by
  refine F.ok scAPair (fun vs H Q E h => ?_) (fun cdv A outer s H vs Q E hr h => ?_)
  · rcases h with ⟨c, a, b, rfl, _⟩ | ⟨c, a, b, rfl, _⟩ | ⟨c, a, b, rfl, _⟩ <;> rfl
  · obtain ⟨t1, h1⟩ := T.num ("COMES_FROM", 2) (by simp)
    obtain ⟨t2, h2⟩ := T.num ("STEPS", 3) (by simp)
    refine ⟨_, pss_cons (ps_if (pt_cmp (pc_eqI (pv 1) (pe_glob (v := .int 2) (by rfl) h1 ⟨t1, rfl⟩))) (pss_one (ps_ret (pe_df D1 hr (by rfl) (pa_cons (pv 0) (pa_cons (pv 2) (pa_cons (pv 3) pa_nil)))))) pss_nil)
      (pss_cons (ps_if (pt_cmp (pc_eqI (pv 1) (pe_glob (v := .int 3) (by rfl) h2 ⟨t2, rfl⟩))) (pss_one (ps_ret (pe_df D2 hr (by rfl) (pa_cons (pv 0) (pa_cons (pv 2) (pa_cons (pv 3) pa_nil)))))) pss_nil)
      (pss_one (ps_ret (pe_df D3 hr (by rfl) (pa_cons (pv 0) (pa_cons (pv 2) (pa_cons (pv 3) pa_nil))))))), ?_⟩
    rcases h with ⟨c, a, b, rfl, h⟩ | ⟨c, a, b, rfl, h⟩ | ⟨c, a, b, rfl, h⟩
    · exact ⟨_, rfl, _, _, rfl, rfl, true, rfl, iteT ⟨_, rfl, _, rfl, _, rfl, h⟩⟩
    · exact ⟨_, rfl, _, _, rfl, rfl, false, rfl, iteF ⟨_, rfl, _, _, rfl, rfl, true, rfl, iteT ⟨_, rfl, _, rfl, _, rfl, h⟩⟩⟩
    · exact ⟨_, rfl, _, _, rfl, rfl, false, rfl, iteF ⟨_, rfl, _, _, rfl, rfl, false, rfl, iteF ⟨_, rfl, _, rfl, _, rfl, h⟩⟩⟩
theorem scATwo : FnScope ["commits", "call", "first", "second"] ["commits", "call", "first", "second"] (defScope aTwo) := ⟨rfl, rfl, rfl, by decide +kernel, rfl, by decide +kernel, by decide +kernel⟩
theorem ok_aTwo (F : Fun K "answer_of_two_sets" "answer_of_two_sets" aTwo f fd) (T : Txt K mg CC CM CR CH) (D1 : Df P w K mg base 5 "answer_walk" ["commits", "first", "second"] (spQSS CC K .walk)) (D2 : Df P w K mg base 5 "answer_halve" ["commits", "first", "second"] (spQSS CC K .halve)) :
    FnOk P w K mg base CX0 6 f fd ["commits", "call", "first", "second"] (spTwoA CC K) := by
  refine F.ok scATwo (fun vs H Q E h => ?_) (fun cdv A outer s H vs Q E hr h => ?_)
  · rcases h with ⟨c, a, b, rfl, _⟩ | ⟨c, a, b, rfl, _⟩ <;> rfl
  · obtain ⟨t1, h1⟩ := T.num ("WALK", 6) (by simp)
    refine ⟨_, pss_cons (ps_if (pt_cmp (pc_eqI (pv 1) (pe_glob (v := .int 6) (by rfl) h1 ⟨t1, rfl⟩))) (pss_one (ps_ret (pe_df D1 hr (by rfl) (pa_cons (pv 0) (pa_cons (pv 2) (pa_cons (pv 3) pa_nil)))))) pss_nil)
      (pss_one (ps_ret (pe_df D2 hr (by rfl) (pa_cons (pv 0) (pa_cons (pv 2) (pa_cons (pv 3) pa_nil)))))), ?_⟩
    rcases h with ⟨c, a, b, rfl, h⟩ | ⟨c, a, b, rfl, h⟩
    · exact ⟨_, rfl, _, _, rfl, rfl, true, rfl, iteT ⟨_, rfl, _, rfl, _, rfl, h⟩⟩
    · exact ⟨_, rfl, _, _, rfl, rfl, false, rfl, iteF ⟨_, rfl, _, rfl, _, rfl, h⟩⟩
end
end Pr
end
section
set_option Elab.async false
set_option linter.all false
set_option maxRecDepth 100000
set_option maxHeartbeats 4000000
namespace Pr
open PySem PySem.Spec PyProof.Rows L2 Mb Mm
abbrev aCall : Stmt := top 25
/-! ### the list of numbers, read -/
theorem drop_at {ns r : List Int} {i : Nat} {z : Int} (h : ns.drop i = z :: r) : ns[i]? = some z := by
  have := congrArg (fun l => l[0]?) h
  simpa using this
theorem drop_next {ns r : List Int} {i : Nat} {z : Int} (h : ns.drop i = z :: r) : ns.drop (i + 1) = r := by
  rw [← List.drop_drop, h]
  rfl
theorem drop_le {ns r : List Int} {i : Nat} {z : Int} (h : ns.drop i = z :: r) : i + 1 ≤ ns.length := by
  have := congrArg List.length h
  rw [List.length_drop, List.length_cons] at this
  omega
theorem drop_row {ns x t : List Int} {i : Nat} (h : ns.drop i = (x.length : Int) :: (x ++ t)) : ns.drop (i + 1 + x.length) = t ∧ i + 1 + x.length ≤ ns.length := by
  constructor
  · rw [← List.drop_drop, drop_next h]
    simp
  · have := congrArg List.length h
    rw [List.length_drop, List.length_cons, List.length_append] at this
    omega
theorem drop_mem {ns r x : List Int} {i : Nat} (h : ns.drop i = r) (hx : ∀ z ∈ x, z ∈ r) (nn : ∀ z ∈ ns, 0 ≤ z) : ∀ z ∈ x, 0 ≤ z := fun z hz => nn z (List.mem_of_mem_drop (by rw [h]; exact hx z hz))
theorem int_nv {z : Int} (h : 0 ≤ z) : V.int z = nv z.toNat := by
  show V.int z = V.int ((z.toNat : Nat) : Int)
  rw [Int.toNat_of_nonneg h]
/-! ### where a call stands -/
structure Here (CC CM CR CH : Addr) (K : PySem.W.Frag) (H0 : Hp) (h c m l t r a : Addr) (rows : List Addr) (s : Hist) (ns : List Int) (H : Hp) (i : Nat) : Prop where
  A : HistAt CC CM CH H h c m l t rows s
  R : RAt CR H r a i
  S : SqL K H a (ns.map V.int)
  B : But r H0 H
section
variable {CC CM CR CH : Addr} {K : PySem.W.Frag} {H0 H H' : Hp} {h c m l t r a : Addr} {rows : List Addr} {s : Hist} {ns : List Int} {i j : Nat}
theorem RAt.same (R : RAt CR H r a i) (q : Same H H') : RAt CR H' r a i := let ⟨d, e⟩ := R; ⟨d, q _ _ e⟩
theorem Here.same (X : Here CC CM CR CH K H0 h c m l t r a rows s ns H i) (q : Same H H') : Here CC CM CR CH K H0 h c m l t r a rows s ns H' i :=
  ⟨X.A.same q, X.R.same q, q.seq X.S, fun b o e n => q b o (X.B b o e n)⟩
theorem Here.free {x : Addr} (X : Here CC CM CR CH K H0 h c m l t r a rows s ns H i) (hx : H x = none) : H0 x = none := let ⟨_, e⟩ := X.R; but_free X.B e hx
theorem HistAt.ne_r (A : HistAt CC CM CH H h c m l t rows s) (R : RAt CR H r a i) : h ≠ r ∧ c ≠ r ∧ m ≠ r ∧ l ≠ r ∧ t ≠ r ∧ ∀ x ∈ rows, x ≠ r := by
  obtain ⟨dr, hr⟩ := R
  obtain ⟨dh, hh⟩ := A.obj
  obtain ⟨dc, hc⟩ := A.cc.obj
  obtain ⟨dm, hm⟩ := A.mm.obj
  refine ⟨ne_of hh hr (ins_ne (f2_ne (by decide +kernel))), ne_of hc hr (ins_ne f12_ne), ne_of hm hr (ins_ne f12_ne), ne_of A.cc.lst hr (by intro z; cases z), ne_of A.mm.lst hr (by intro z; cases z), fun x hx => ?_⟩
  obtain ⟨k, hk⟩ := List.getElem?_of_mem hx
  have hk' : k < s.parents.length := by
    rw [← A.cc.rws.len]
    exact (List.getElem?_eq_some_iff.mp hk).1
  exact ne_of (A.cc.rws.at_ k x _ hk (List.getElem?_eq_getElem hk')) hr (by intro z; cases z)
theorem HistAt.but (A : HistAt CC CM CH H h c m l t rows s) (R : RAt CR H r a i) (b : But r H H') : HistAt CC CM CH H' h c m l t rows s := by
  obtain ⟨n1, n2, n3, n4, n5, n6⟩ := A.ne_r R
  obtain ⟨dh, hh⟩ := A.obj
  obtain ⟨dc, hc⟩ := A.cc.obj
  obtain ⟨dm, hm⟩ := A.mm.obj
  exact ⟨⟨dh, b _ _ hh n1⟩, ⟨⟨dc, b _ _ hc n2⟩, b _ _ A.cc.lst n4, A.cc.rws.keep fun x hx o q => b _ _ q (n6 x hx), A.cc.out⟩, ⟨⟨dm, b _ _ hm n3⟩, b _ _ A.mm.lst n5⟩, A.tl, A.tr⟩
theorem Here.next (X : Here CC CM CR CH K H0 h c m l t r a rows s ns H i) (R : RAt CR H' r a j) (b : But r H H') : Here CC CM CR CH K H0 h c m l t r a rows s ns H' j :=
  ⟨X.A.but X.R b, R, let ⟨_, e⟩ := X.R; seq_but X.S e b, X.B.trans b⟩
end
/-! ### promise -/
def spCall (CC CM CR CH : Addr) (K : PySem.W.Frag) : Sp := fun vs H Q _ => ∃ (h r a c m l t : Addr) (rows : List Addr) (s : Hist) (i : Nat) (ns : List Int) (k : Wqatak.Call) (t' : List Int), vs = [.ref h, .ref r] ∧ HistAt CC CM CH H h c m l t rows s ∧ Wf s ∧ RAt CR H r a i ∧
  SqL K H a (ns.map V.int) ∧ (∀ z ∈ ns, 0 ≤ z) ∧ ns.length ≤ 30000 ∧ Mm.Rd (ns.drop i) k t' ∧
  ∀ (H' : Hp) (p l' t'' : Addr) (rows' : List Addr) (j : Nat), HistAt CC CM CH H' h c m l' t'' rows' (Wqatak.step s k).1 → (l' = l ∨ H l' = none) → (t'' = t ∨ H t'' = none) → (∀ x ∈ rows', x ∈ rows ∨ H x = none) → RAt CR H' r a j → j ≤ ns.length → ns.drop j = t' →
    (∀ b o, H b = some o → b ∉ [c, m, l, t, r] → H' b = some o) → H p = none → H' p = some (.lst (ansV (Wqatak.step s k).2)) → Q (.ref p) H'
/-! ### tests -/
theorem rd_in3 {K : PySem.W.Frag} {σ : L2.St} {H : Hp} {Q : Bool → Hp → Prop} {i : Nat} {z x y u : Int} (hσ : σ[i]? = some (some (.int z))) (k : ∀ H', Same H H' → Q (inV (.int z) [.int x, .int y, .int u]) H') :
    tTest (tOp (rIn K false) (tVar i) (tTup (tCons (tC (.int x)) (tCons (tC (.int y)) (tCons (tC (.int u)) tNil))))) σ H Q :=
  ⟨_, hσ, (by show 3 ≤ sizeLine; decide), fun p hp => ⟨p, _, rfl, .inr (SqT.of upd_same), rfl, rfl, _, rfl, k _ (same_new hp)⟩⟩
theorem rd_in2 {K : PySem.W.Frag} {σ : L2.St} {H : Hp} {Q : Bool → Hp → Prop} {i : Nat} {z x y : Int} (hσ : σ[i]? = some (some (.int z))) (k : ∀ H', Same H H' → Q (inV (.int z) [.int x, .int y]) H') :
    tTest (tOp (rIn K false) (tVar i) (tTup (tCons (tC (.int x)) (tCons (tC (.int y)) tNil)))) σ H Q :=
  ⟨_, hσ, (by show 2 ≤ sizeLine; decide), fun p hp => ⟨p, _, rfl, .inr (SqT.of upd_same), rfl, rfl, _, rfl, k _ (same_new hp)⟩⟩
theorem rd_eq {σ : L2.St} {H : Hp} {Q : Bool → Hp → Prop} {i : Nat} {z x : Int} {b : Bool} (hσ : σ[i]? = some (some (.int z))) (e : decide (z = x) = b) (k : Q b H) : tB (tEqI (tVar i) (tC (.int x))) σ H Q :=
  ⟨_, hσ, _, _, rfl, rfl, b, congrArg V.bl e, k⟩
section
variable {P : Program} {w : World} {K : PySem.W.Frag} {mg : Str → Option Value} {base : Heap} {CC CM CR CH f : Addr} {fd : FuncData}
theorem scCall : FnScope ["history", "reader", "call", "a", "b", "first", "second", "mark", "commit", "force"] ["history", "reader"] (defScope aCall) := ⟨rfl, rfl, rfl, by decide +kernel, rfl, by decide +kernel, by decide +kernel⟩
theorem ok_call (F : Fun K "answer_call" "answer_call" aCall f fd) (T : Txt K mg CC CM CR CH) (MN : Mt P w K mg base CR 1 "read_number" ["self"] (spNum CR K)) (MR : Mt P w K mg base CR 2 "read_row" ["self"] (spRow CR K))
    (D1 : Df P w K mg base 6 "answer_of_row" ["commits", "call", "row"] (spRowA CC K)) (D2 : Df P w K mg base 6 "answer_of_pair" ["commits", "call", "a", "b"] (spPairA CC)) (D3 : Df P w K mg base 6 "answer_of_two_sets" ["commits", "call", "first", "second"] (spTwoA CC K))
    (D4 : Df P w K mg base 5 "answer_parents" ["commits", "a"] (spQ1 CC .parents)) (D5 : Df P w K mg base 5 "answer_mark" ["history", "mark", "commit", "force"] (spAMark CC CM CH)) (D6 : Df P w K mg base 5 "answer_marked" ["marks", "mark"] (spAMarked CM)) (D7 : Df P w K mg base 5 "answer_prune" ["history"] (spAPrune CC CM CH)) :
    FnOk P w K mg base CX0 7 f fd ["history", "reader"] (spCall CC CM CR CH K) := by
  refine F.ok scCall (fun vs H Q E h => ?_) (fun cdv A outer s H vs Q E hr h => ?_)
  · obtain ⟨h, r, a, c, m, l, t, rows, sh, i, ns, k, t', rfl, _⟩ := h
    rfl
  · obtain ⟨h, r, a, c, m, l, t, rows, sh, i, ns, k, t', rfl, A0, W, R0, S0, nn, h30, rd, kk⟩ := h
    have nd := scCall.nd
    obtain ⟨t0, g0⟩ := T.num ("ADD", 0) (by simp)
    obtain ⟨t1, g1⟩ := T.num ("PARENTS", 1) (by simp)
    obtain ⟨t2, g2⟩ := T.num ("COMES_FROM", 2) (by simp)
    obtain ⟨t3, g3⟩ := T.num ("STEPS", 3) (by simp)
    obtain ⟨t4, g4⟩ := T.num ("BEST", 4) (by simp)
    obtain ⟨t5, g5⟩ := T.num ("HEADS", 5) (by simp)
    obtain ⟨t6, g6⟩ := T.num ("WALK", 6) (by simp)
    obtain ⟨t7, g7⟩ := T.num ("BETWEEN", 7) (by simp)
    obtain ⟨t8, g8⟩ := T.num ("HALVE", 8) (by simp)
    obtain ⟨t9, g9⟩ := T.num ("MARK", 9) (by simp)
    obtain ⟨t10, g10⟩ := T.num ("MARKED", 10) (by simp)
    obtain ⟨t11, g11⟩ := T.num ("PRUNE", 11) (by simp)
    have r2 : Room 2 (A.deeper (envOfC "answer_call" (defScope aCall) s.heap.objs.size f cdv)) := hr.mono (by decide)
    have r1 : Room 1 (A.deeper (envOfC "answer_call" (defScope aCall) s.heap.objs.size f cdv)) := hr.mono (by decide)
    have r5 : Room 5 (A.deeper (envOfC "answer_call" (defScope aCall) s.heap.objs.size f cdv)) := hr.mono (by decide)
    refine ⟨_, pss_cons (ps_set (i := 2) nd rfl (Or.inl rfl) (pe_mt0 MN T.cR r1 (pv 1)))
      (pss_cons (ps_if (pt_cmpR op_in_seq (pv 2) (pe_tup (pa_cons (pe_glob (v := .int 0) (by rfl) g0 ⟨t0, rfl⟩) (pa_cons (pe_glob (v := .int 4) (by rfl) g4 ⟨t4, rfl⟩) (pa_cons (pe_glob (v := .int 5) (by rfl) g5 ⟨t5, rfl⟩) pa_nil)))) rfl)
        (pss_one (ps_ret (pe_df D1 hr (by rfl) (pa_cons (pe_fld (pv 0) rfl) (pa_cons (pv 2) (pa_cons (pe_mt0 MR T.cR r2 (pv 1)) pa_nil)))))) pss_nil)
      (pss_cons (ps_if (pt_cmpR op_in_seq (pv 2) (pe_tup (pa_cons (pe_glob (v := .int 2) (by rfl) g2 ⟨t2, rfl⟩) (pa_cons (pe_glob (v := .int 3) (by rfl) g3 ⟨t3, rfl⟩) (pa_cons (pe_glob (v := .int 7) (by rfl) g7 ⟨t7, rfl⟩) pa_nil)))) rfl)
        (pss_cons (ps_set (i := 3) nd rfl (Or.inl rfl) (pe_mt0 MN T.cR r1 (pv 1))) (pss_cons (ps_set (i := 4) nd rfl (Or.inl rfl) (pe_mt0 MN T.cR r1 (pv 1)))
          (pss_one (ps_ret (pe_df D2 hr (by rfl) (pa_cons (pe_fld (pv 0) rfl) (pa_cons (pv 2) (pa_cons (pv 3) (pa_cons (pv 4) pa_nil))))))))) pss_nil)
      (pss_cons (ps_if (pt_cmpR op_in_seq (pv 2) (pe_tup (pa_cons (pe_glob (v := .int 6) (by rfl) g6 ⟨t6, rfl⟩) (pa_cons (pe_glob (v := .int 8) (by rfl) g8 ⟨t8, rfl⟩) pa_nil))) rfl)
        (pss_cons (ps_set (i := 5) nd rfl (Or.inl rfl) (pe_mt0 MR T.cR r2 (pv 1))) (pss_cons (ps_set (i := 6) nd rfl (Or.inl rfl) (pe_mt0 MR T.cR r2 (pv 1)))
          (pss_one (ps_ret (pe_df D3 hr (by rfl) (pa_cons (pe_fld (pv 0) rfl) (pa_cons (pv 2) (pa_cons (pv 5) (pa_cons (pv 6) pa_nil))))))))) pss_nil)
      (pss_cons (ps_if (pt_cmp (pc_eqI (pv 2) (pe_glob (v := .int 1) (by rfl) g1 ⟨t1, rfl⟩)))
        (pss_one (ps_ret (pe_df D4 r5 (by rfl) (pa_cons (pe_fld (pv 0) rfl) (pa_cons (pe_mt0 MN T.cR r1 (pv 1)) pa_nil))))) pss_nil)
      (pss_cons (ps_if (pt_cmp (pc_eqI (pv 2) (pe_glob (v := .int 9) (by rfl) g9 ⟨t9, rfl⟩)))
        (pss_cons (ps_set (i := 7) nd rfl (Or.inl rfl) (pe_mt0 MN T.cR r1 (pv 1))) (pss_cons (ps_set (i := 8) nd rfl (Or.inl rfl) (pe_mt0 MN T.cR r1 (pv 1))) (pss_cons (ps_set (i := 9) nd rfl (Or.inl rfl) (pe_mt0 MN T.cR r1 (pv 1)))
          (pss_one (ps_ret (pe_df D5 r5 (by rfl) (pa_cons (pv 0) (pa_cons (pv 7) (pa_cons (pv 8) (pa_cons (pv 9) pa_nil)))))))))) pss_nil)
      (pss_cons (ps_if (pt_cmp (pc_eqI (pv 2) (pe_glob (v := .int 10) (by rfl) g10 ⟨t10, rfl⟩)))
        (pss_one (ps_ret (pe_df D6 r5 (by rfl) (pa_cons (pe_fld (pv 0) rfl) (pa_cons (pe_mt0 MN T.cR r1 (pv 1)) pa_nil))))) pss_nil)
      (pss_cons (ps_if (pt_cmp (pc_eqI (pv 2) (pe_glob (v := .int 11) (by rfl) g11 ⟨t11, rfl⟩)))
        (pss_one (ps_ret (pe_df D7 r5 (by rfl) (pa_cons (pv 0) pa_nil)))) pss_nil)
      pss_never))))))), ?_⟩
    have X0 : Here CC CM CR CH K H h c m l t r a rows sh ns H i := ⟨A0, R0, S0, fun b o e _ => e⟩
    -- a number is read
    have num : ∀ {σ : L2.St} {H1 : Hp} {j : Nat} {z : Int} {rest : List Int} {Q' : VK}, σ[1]? = some (some (.ref r)) → Here CC CM CR CH K H h c m l t r a rows sh ns H1 j → ns.drop j = z :: rest → (∀ H2, Here CC CM CR CH K H h c m l t r a rows sh ns H2 (j + 1) → ns.drop (j + 1) = rest → Q' (.int z) H2) →
        tMeth CR "read_number" (spNum CR K) [] E0 (tVar 1) tNil σ H1 Q' := fun {σ H1 j z rest Q'} hσ X hd k' => by
      obtain ⟨dr, hr⟩ := X.R
      exact ⟨_, hσ, r, dr, _, rfl, hr, look2_no _ _ (by decide +kernel) (by decide +kernel), r, a, j, ns, z, rfl, X.R, X.S, drop_at hd, fun H2 R2 b2 => k' H2 (X.next R2 b2) (drop_next hd)⟩
    -- a row is read
    have row : ∀ {σ : L2.St} {H1 : Hp} {j : Nat} {x rest : List Int} {Q' : VK}, σ[1]? = some (some (.ref r)) → Here CC CM CR CH K H h c m l t r a rows sh ns H1 j → ns.drop j = (x.length : Int) :: (x ++ rest) → (∀ H2 p, Here CC CM CR CH K H h c m l t r a rows sh ns H2 (j + 1 + x.length) → ns.drop (j + 1 + x.length) = rest → But r H1 H2 → H2 p = some (.lst (nvs (x.map Int.toNat))) → p ≠ r → x.length ≤ 30000 → Q' (.ref p) H2) →
        tMeth CR "read_row" (spRow CR K) [] E0 (tVar 1) tNil σ H1 Q' := fun {σ H1 j x rest Q'} hσ X hd k' => by
      obtain ⟨dr, hr⟩ := X.R
      refine ⟨_, hσ, r, dr, _, rfl, hr, look2_no _ _ (by decide +kernel) (by decide +kernel), r, a, j, ns, x, rest, rfl, X.R, X.S, hd, fun H2 p R2 b2 hp h2 => ?_⟩
      have n0 : ∀ z ∈ x, 0 ≤ z := drop_mem hd (fun z hz => List.mem_cons_of_mem _ (List.mem_append_left _ hz)) nn
      rw [toNats_nvs n0] at h2
      have hrp : p ≠ r := Ne.symm (ne_of_none hr hp)
      exact k' H2 p (X.next R2 b2) (drop_row hd).1 b2 h2 hrp (by have := (drop_row hd).2; omega)
    -- a question's end
    have fin : ∀ {H3 : Hp} {j : Nat}, Here CC CM CR CH K H h c m l t r a rows sh ns H3 j → j ≤ ns.length → ns.drop j = t' → (Wqatak.step sh k).1 = sh → Tell H3 Q (Wqatak.step sh k).2 := fun {H3 j} X hj hd e H' p s' hp0 hp => by
      refine kk H' p l t rows j (by rw [e]; exact X.A.same s') (.inl rfl) (.inl rfl) (fun x hx => .inl hx) (X.R.same s') hj hd (fun b o q n => s' b o (X.B b o q fun z => n (by simp [z]))) (X.free hp0) hp
    have hT : ∀ {H1 : Hp} {j : Nat}, Here CC CM CR CH K H h c m l t r a rows sh ns H1 j → ∃ dh, H1 h = some (.ins CH dh (f2 "commits" (.ref c) "marks" (.ref m))) := fun X => X.A.obj
    generalize hd0 : ns.drop i = d0 at rd
    have addm : ∀ ps : List Nat, (Wqatak.addOf sh ps).1.marks = sh.marks := fun ps => by
      unfold Wqatak.addOf
      split
      · rfl
      · split <;> rfl
    cases rd with
    | add x t' =>
      refine num rfl X0 hd0 fun H1 X1 hd1 => ?_
      refine rd_in3 (z := 0) rfl fun H2 s2 => iteT ?_
      have X2 := X1.same s2
      obtain ⟨dh, hh⟩ := X2.A.obj
      refine ⟨_, rfl, h, CH, dh, _, _, rfl, hh, T.cH, T.nC, look2a _ _ _ _, _, rfl, row rfl X2 hd1 fun H3 p X3 hd3 b3 h3 hpr hx => ?_⟩
      refine .inl ⟨c, p, rfl, c, p, l, rows, sh, x.map Int.toNat, rfl, X3.A.cc, W, SqL.of h3, by rw [List.length_map]; exact hx, fun H4 p4 rows4 C4 hr4 b4 hf4 hp4 => ?_⟩
      obtain ⟨dh3, hh3⟩ := X3.A.obj
      obtain ⟨dm3, hm3⟩ := X3.A.mm.obj
      obtain ⟨n1, n2, n3, n4, n5, n6⟩ := X3.A.ne_r X3.R
      have hhl : h ≠ l := ne_of hh3 X3.A.cc.lst (by intro z; cases z)
      have hml : m ≠ l := ne_of hm3 X3.A.cc.lst (by intro z; cases z)
      have A4 : HistAt CC CM CH H4 h c m l t rows4 (Wqatak.addOf sh (x.map Int.toNat)).1 := by
        refine ⟨⟨dh3, b4 _ _ hh3 hhl⟩, C4, ?_, X3.A.tl, fun z => ?_⟩
        · rw [addm]
          exact ⟨⟨dm3, b4 _ _ hm3 hml⟩, b4 _ _ X3.A.mm.lst X3.A.tl⟩
        · rcases hr4 t z with q | q
          · exact X3.A.tr q
          · rw [X3.A.mm.lst] at q
            cases q
      obtain ⟨dr3, hr3⟩ := X3.R
      exact kk H4 p4 l t rows4 _ A4 (.inl rfl) (.inl rfl) (fun x hx => (hr4 x hx).elim .inl fun z => .inr (X3.free z)) ⟨dr3, b4 _ _ hr3 (Ne.symm n4)⟩ (drop_row hd1).2 hd3 (fun b o q n => b4 _ _ (X3.B b o q fun z => n (by simp [z])) fun z => n (by simp [z])) (X3.free hf4) hp4
    | parents a1 t' =>
      refine num rfl X0 hd0 fun H1 X1 hd1 => ?_
      refine rd_in3 (z := 1) rfl fun H2 s2 => iteF (rd_in3 (z := 1) rfl fun H3 s3 => iteF (rd_in2 (z := 1) rfl fun H4 s4 => iteF (rd_eq (z := 1) rfl rfl (iteT ?_))))
      have X4 := ((X1.same s2).same s3).same s4
      obtain ⟨dh, hh⟩ := X4.A.obj
      have n1 : 0 ≤ a1 := drop_mem (x := [a1]) hd1 (fun z hz => by simp at hz; subst hz; exact List.mem_cons_self) nn a1 (by simp)
      refine ⟨_, rfl, h, CH, dh, _, _, rfl, hh, T.cH, T.nC, look2a _ _ _ _, num rfl X4 hd1 fun H5 X5 hd5 => ?_⟩
      exact ⟨c, sh, a1.toNat, by rw [int_nv n1]; rfl, ⟨l, rows, X5.A.cc⟩, W, fin X5 (drop_le hd1) hd5 rfl⟩
    | comes a1 b1 t' =>
      refine num rfl X0 hd0 fun H1 X1 hd1 => ?_
      refine rd_in3 (z := 2) rfl fun H2 s2 => iteF (rd_in3 (z := 2) rfl fun H3 s3 => iteT ?_)
      have X3 := (X1.same s2).same s3
      have n1 : 0 ≤ a1 := drop_mem (x := [a1]) hd1 (fun z hz => by simp at hz; subst hz; exact List.mem_cons_self) nn a1 (by simp)
      refine num rfl X3 hd1 fun H4 X4 hd4 => num rfl X4 hd4 fun H5 X5 hd5 => ?_
      have n2 : 0 ≤ b1 := drop_mem (x := [b1]) hd4 (fun z hz => by simp at hz; subst hz; exact List.mem_cons_self) nn b1 (by simp)
      obtain ⟨dh, hh⟩ := X5.A.obj
      refine ⟨_, rfl, h, CH, dh, _, _, rfl, hh, T.cH, T.nC, look2a _ _ _ _, _, rfl, _, rfl, _, rfl, ?_⟩
      exact .inl ⟨c, _, _, rfl, c, sh, a1.toNat, b1.toNat, by rw [int_nv n1, int_nv n2], ⟨l, rows, X5.A.cc⟩, W, fin X5 (drop_le hd4) hd5 rfl⟩
    | steps a1 b1 t' =>
      refine num rfl X0 hd0 fun H1 X1 hd1 => ?_
      refine rd_in3 (z := 3) rfl fun H2 s2 => iteF (rd_in3 (z := 3) rfl fun H3 s3 => iteT ?_)
      have X3 := (X1.same s2).same s3
      have n1 : 0 ≤ a1 := drop_mem (x := [a1]) hd1 (fun z hz => by simp at hz; subst hz; exact List.mem_cons_self) nn a1 (by simp)
      refine num rfl X3 hd1 fun H4 X4 hd4 => num rfl X4 hd4 fun H5 X5 hd5 => ?_
      have n2 : 0 ≤ b1 := drop_mem (x := [b1]) hd4 (fun z hz => by simp at hz; subst hz; exact List.mem_cons_self) nn b1 (by simp)
      obtain ⟨dh, hh⟩ := X5.A.obj
      refine ⟨_, rfl, h, CH, dh, _, _, rfl, hh, T.cH, T.nC, look2a _ _ _ _, _, rfl, _, rfl, _, rfl, ?_⟩
      exact .inr (.inl ⟨c, _, _, rfl, c, sh, a1.toNat, b1.toNat, by rw [int_nv n1, int_nv n2], ⟨l, rows, X5.A.cc⟩, W, fin X5 (drop_le hd4) hd5 rfl⟩)
    | between a1 b1 t' =>
      refine num rfl X0 hd0 fun H1 X1 hd1 => ?_
      refine rd_in3 (z := 7) rfl fun H2 s2 => iteF (rd_in3 (z := 7) rfl fun H3 s3 => iteT ?_)
      have X3 := (X1.same s2).same s3
      have n1 : 0 ≤ a1 := drop_mem (x := [a1]) hd1 (fun z hz => by simp at hz; subst hz; exact List.mem_cons_self) nn a1 (by simp)
      refine num rfl X3 hd1 fun H4 X4 hd4 => num rfl X4 hd4 fun H5 X5 hd5 => ?_
      have n2 : 0 ≤ b1 := drop_mem (x := [b1]) hd4 (fun z hz => by simp at hz; subst hz; exact List.mem_cons_self) nn b1 (by simp)
      obtain ⟨dh, hh⟩ := X5.A.obj
      refine ⟨_, rfl, h, CH, dh, _, _, rfl, hh, T.cH, T.nC, look2a _ _ _ _, _, rfl, _, rfl, _, rfl, ?_⟩
      exact .inr (.inr ⟨c, _, _, rfl, c, sh, a1.toNat, b1.toNat, by rw [int_nv n1, int_nv n2], ⟨l, rows, X5.A.cc⟩, W, fin X5 (drop_le hd4) hd5 rfl⟩)
    | best x t' =>
      refine num rfl X0 hd0 fun H1 X1 hd1 => ?_
      refine rd_in3 (z := 4) rfl fun H2 s2 => iteT ?_
      have X2 := X1.same s2
      obtain ⟨dh, hh⟩ := X2.A.obj
      refine ⟨_, rfl, h, CH, dh, _, _, rfl, hh, T.cH, T.nC, look2a _ _ _ _, _, rfl, row rfl X2 hd1 fun H3 p X3 hd3 b3 h3 hpr hx => ?_⟩
      exact .inr (.inl ⟨c, p, rfl, c, p, sh, x.map Int.toNat, rfl, ⟨l, rows, X3.A.cc⟩, W, SqL.of h3, by rw [List.length_map]; exact hx, fin X3 (drop_row hd1).2 hd3 rfl⟩)
    | heads x t' =>
      refine num rfl X0 hd0 fun H1 X1 hd1 => ?_
      refine rd_in3 (z := 5) rfl fun H2 s2 => iteT ?_
      have X2 := X1.same s2
      obtain ⟨dh, hh⟩ := X2.A.obj
      refine ⟨_, rfl, h, CH, dh, _, _, rfl, hh, T.cH, T.nC, look2a _ _ _ _, _, rfl, row rfl X2 hd1 fun H3 p X3 hd3 b3 h3 hpr hx => ?_⟩
      exact .inr (.inr ⟨c, p, rfl, c, p, sh, x.map Int.toNat, rfl, ⟨l, rows, X3.A.cc⟩, W, SqL.of h3, by rw [List.length_map]; exact hx, fin X3 (drop_row hd1).2 hd3 rfl⟩)
    | walk x y t' =>
      refine num rfl X0 hd0 fun H1 X1 hd1 => ?_
      refine rd_in3 (z := 6) rfl fun H2 s2 => iteF (rd_in3 (z := 6) rfl fun H3 s3 => iteF (rd_in2 (z := 6) rfl fun H4 s4 => iteT ?_))
      have X4 := ((X1.same s2).same s3).same s4
      refine row rfl X4 hd1 fun H5 p5 X5 hd5 b5 h5 hp5 hx => row rfl X5 hd5 fun H6 p6 X6 hd6 b6 h6 hp6 hy => ?_
      obtain ⟨dh, hh⟩ := X6.A.obj
      refine ⟨_, rfl, h, CH, dh, _, _, rfl, hh, T.cH, T.nC, look2a _ _ _ _, _, rfl, _, rfl, _, rfl, ?_⟩
      exact .inl ⟨c, _, _, rfl, c, p5, p6, sh, x.map Int.toNat, y.map Int.toNat, rfl, ⟨l, rows, X6.A.cc⟩, W, SqL.of (b6 _ _ h5 hp5), by rw [List.length_map]; exact hx, SqL.of h6, by rw [List.length_map]; exact hy, fin X6 (drop_row hd5).2 hd6 rfl⟩
    | halve x y t' =>
      refine num rfl X0 hd0 fun H1 X1 hd1 => ?_
      refine rd_in3 (z := 8) rfl fun H2 s2 => iteF (rd_in3 (z := 8) rfl fun H3 s3 => iteF (rd_in2 (z := 8) rfl fun H4 s4 => iteT ?_))
      have X4 := ((X1.same s2).same s3).same s4
      refine row rfl X4 hd1 fun H5 p5 X5 hd5 b5 h5 hp5 hx => row rfl X5 hd5 fun H6 p6 X6 hd6 b6 h6 hp6 hy => ?_
      obtain ⟨dh, hh⟩ := X6.A.obj
      refine ⟨_, rfl, h, CH, dh, _, _, rfl, hh, T.cH, T.nC, look2a _ _ _ _, _, rfl, _, rfl, _, rfl, ?_⟩
      exact .inr ⟨c, _, _, rfl, c, p5, p6, sh, x.map Int.toNat, y.map Int.toNat, rfl, ⟨l, rows, X6.A.cc⟩, W, SqL.of (b6 _ _ h5 hp5), by rw [List.length_map]; exact hx, SqL.of h6, by rw [List.length_map]; exact hy, fin X6 (drop_row hd5).2 hd6 rfl⟩
    | mark m1 c1 y1 t' =>
      refine num rfl X0 hd0 fun H1 X1 hd1 => ?_
      refine rd_in3 (z := 9) rfl fun H2 s2 => iteF (rd_in3 (z := 9) rfl fun H3 s3 => iteF (rd_in2 (z := 9) rfl fun H4 s4 => iteF (rd_eq (z := 9) rfl rfl (iteF (rd_eq (z := 9) rfl rfl (iteT ?_))))))
      have X4 := ((X1.same s2).same s3).same s4
      have n1 : 0 ≤ m1 := drop_mem (x := [m1]) hd1 (fun z hz => by simp at hz; subst hz; exact List.mem_cons_self) nn m1 (by simp)
      refine num rfl X4 hd1 fun H5 X5 hd5 => num rfl X5 hd5 fun H6 X6 hd6 => num rfl X6 hd6 fun H7 X7 hd7 => ?_
      have n2 : 0 ≤ c1 := drop_mem (x := [c1]) hd5 (fun z hz => by simp at hz; subst hz; exact List.mem_cons_self) nn c1 (by simp)
      have n3 : 0 ≤ y1 := drop_mem (x := [y1]) hd6 (fun z hz => by simp at hz; subst hz; exact List.mem_cons_self) nn y1 (by simp)
      refine ⟨_, rfl, _, rfl, _, rfl, _, rfl, h, c, m, l, t, rows, sh, m1.toNat, c1.toNat, y1.toNat, by rw [int_nv n1, int_nv n2, int_nv n3]; rfl, X7.A, W, fun H8 p8 A8 b8 hf8 hp8 => ?_⟩
      obtain ⟨q1, q2, q3, q4, q5, q6⟩ := X7.A.ne_r X7.R
      obtain ⟨dr7, hr7⟩ := X7.R
      exact kk H8 p8 l t rows _ A8 (.inl rfl) (.inl rfl) (fun x hx => .inl hx) ⟨dr7, b8 _ _ hr7 (Ne.symm q5)⟩ (drop_le hd6) hd7 (fun b o q n => b8 _ _ (X7.B b o q fun z => n (by simp [z])) fun z => n (by simp [z])) (X7.free hf8) hp8
    | marked m1 t' =>
      refine num rfl X0 hd0 fun H1 X1 hd1 => ?_
      refine rd_in3 (z := 10) rfl fun H2 s2 => iteF (rd_in3 (z := 10) rfl fun H3 s3 => iteF (rd_in2 (z := 10) rfl fun H4 s4 => iteF (rd_eq (z := 10) rfl rfl (iteF (rd_eq (z := 10) rfl rfl (iteF (rd_eq (z := 10) rfl rfl (iteT ?_))))))))
      have X4 := ((X1.same s2).same s3).same s4
      obtain ⟨dh, hh⟩ := X4.A.obj
      have n1 : 0 ≤ m1 := drop_mem (x := [m1]) hd1 (fun z hz => by simp at hz; subst hz; exact List.mem_cons_self) nn m1 (by simp)
      refine ⟨_, rfl, h, CH, dh, _, _, rfl, hh, T.cH, T.nM, look2b _ _ (by decide +kernel), num rfl X4 hd1 fun H5 X5 hd5 => ?_⟩
      exact ⟨m, sh, m1.toNat, by rw [int_nv n1]; rfl, ⟨t, X5.A.mm⟩, W, fin X5 (drop_le hd1) hd5 rfl⟩
    | prune t' =>
      refine num rfl X0 hd0 fun H1 X1 hd1 => ?_
      refine rd_in3 (z := 11) rfl fun H2 s2 => iteF (rd_in3 (z := 11) rfl fun H3 s3 => iteF (rd_in2 (z := 11) rfl fun H4 s4 => iteF (rd_eq (z := 11) rfl rfl (iteF (rd_eq (z := 11) rfl rfl (iteF (rd_eq (z := 11) rfl rfl (iteF (rd_eq (z := 11) rfl rfl (iteT ?_))))))))))
      have X4 := ((X1.same s2).same s3).same s4
      obtain ⟨dh, hh⟩ := X4.A.obj
      refine ⟨_, rfl, h, c, m, l, t, rows, sh, rfl, X4.A, W, fun H5 p5 l5 t5 rows5 A5 hl5 ht5 hw5 b5 hf5 hp5 => ?_⟩
      obtain ⟨q1, q2, q3, q4, q5, q6⟩ := X4.A.ne_r X4.R
      obtain ⟨dr4, hr4⟩ := X4.R
      have fre : ∀ x, H4 x = none → H x = none := fun x hx => by
        cases q : H x with
        | none => rfl
        | some o =>
          by_cases e : x = r
          · rw [e, hr4] at hx
            cases hx
          · rw [X4.B x o q e] at hx
            cases hx
      exact kk H5 p5 l5 t5 rows5 _ A5 (.inr (fre _ hl5)) (.inr (fre _ ht5)) (fun x hx => .inr (fre _ (hw5 x hx))) ⟨dr4, b5 _ _ hr4 (Ne.symm q2) (Ne.symm q3)⟩ (drop_le hd0) hd1 (fun b o q n => b5 _ _ (X4.B b o q fun z => n (by simp [z])) (fun z => n (by simp [z])) fun z => n (by simp [z])) (X4.free hf5) hp5
end
end Pr
end
section
set_option Elab.async false
set_option linter.all false
set_option maxRecDepth 100000
set_option maxHeartbeats 4000000
namespace Pr
open PySem PySem.Spec PyProof.Rows L2 Mb Mm
abbrev aAns : Stmt := top 24
def spAns (K : PySem.W.Frag) : Sp := fun vs H Q _ => ∃ (a : Addr) (ns : List Int), vs = [.ref a] ∧ SqL K H a (ns.map V.int) ∧ (∀ z ∈ ns, 0 ≤ z) ∧ ns.length ≤ 30000 ∧ PyWqatak.answers_asked ns = true ∧ ∀ (H' : Hp) (p : Addr), H' p = some (.lst ((PyWqatak.answers ns).map V.int)) → Q (.ref p) H'
theorem Rd_shorter {ns t : List Int} {k : Wqatak.Call} {i : Nat} (rd : Mm.Rd (ns.drop i) k t) {j : Nat} (hj : j ≤ ns.length) (hd : ns.drop j = t) : i < j := by
  have h1 : t.length < (ns.drop i).length := by
    generalize ns.drop i = d at rd
    cases rd <;> simp <;> omega
  have h2 := congrArg List.length hd
  rw [List.length_drop] at h1 h2
  omega
section
variable {P : Program} {w : World} {K : PySem.W.Frag} {mg : Str → Option Value} {base : Heap} {CC CM CR CH f : Addr} {fd : FuncData}
theorem scAns : FnScope ["calls", "history", "reader", "given", "answer"] ["calls"] (defScope aAns) := ⟨rfl, rfl, rfl, by decide +kernel, rfl, by decide +kernel, by decide +kernel⟩
theorem ok_ans (F : Fun K "answers" "answers" aAns f fd) (T : Txt K mg CC CM CR CH) (OH : Mo P w K mg base CH 3 "History" ["self"] (spHI CC CM CH)) (OR : Mo P w K mg base CR 1 "Reader" ["self", "numbers"] (spRI CR)) (ME : Mt P w K mg base CR 1 "at_end" ["self"] (spEnd CR K))
    (DC : Df P w K mg base 7 "answer_call" ["history", "reader"] (spCall CC CM CR CH K)) : FnOk P w K mg base CX0 8 f fd ["calls"] (spAns K) := by
  refine F.ok scAns (fun vs H Q E h => ?_) (fun cdv A outer s H vs Q E hr h => ?_)
  · obtain ⟨a, ns, rfl, _⟩ := h
    rfl
  · obtain ⟨a, ns, rfl, S0, nn, h30, ask, k⟩ := h
    have nd := scAns.nd
    refine ⟨_, pss_cons (ps_set (i := 1) nd rfl (Or.inl rfl) (pe_mo0 OH (hr.mono (by decide)) (by rfl)))
      (pss_cons (ps_set (i := 2) nd rfl (Or.inl rfl) (pe_mo OR (hr.mono (by decide)) (by rfl) (pa_cons (pv 0) pa_nil)))
      (pss_cons (ps_set (i := 3) nd rfl (Or.inl rfl) (pe_lst pa_nil))
      (pss_cons (ps_while PassesOwn.never (pt_not (pt_val (pe_mt0 ME T.cR (hr.mono (by decide)) (pv 2))))
        (pss_cons (ps_set (i := 4) nd rfl (Or.inl rfl) (pe_df DC hr (by rfl) (pa_cons (pv 1) (pa_cons (pv 2) pa_nil))))
        (pss_cons (ps_expr (pe_bm PySem.F.plainAttrs_list PySem.F.slot_list_append PySem.F.type_list_append mt_append (pv 3) (pa_cons (pe_callB call_len_seq (by rfl) T.len bt_len (pa_cons (pv 4) pa_nil)) pa_nil)))
        (pss_one (ps_expr (pe_bm PySem.F.plainAttrs_list PySem.F.slot_list_extend PySem.F.type_list_extend mt_extend (pv 3) (pa_cons (pv 4) pa_nil)))))))
      (pss_one (ps_ret (pv 3)))))), ?_⟩
    -- history = History()
    intro h dh hh hdh hne
    have s1 : Same H (upd (upd H dh (.own h)) h (.ins CH dh [])) := fun b o e => by
      rw [upd_ne (ne_of_none e hh), upd_ne (ne_of_none e hdh)]
      exact e
    refine ⟨h, dh, rfl, upd_same, fun H1 c m l t A1 fr1 b1 => ⟨rfl, ?_⟩⟩
    have s2 : Same H H1 := fun b o e => b1 b o (s1 b o e) (ne_of_none e hh)
    have f1' : ∀ x ∈ [c, m, l, t], H x = none := fun x hx => s1.free (fr1 x hx)
    -- reader = Reader(calls)
    refine ⟨_, rfl, ?_⟩
    intro r dr hr0 hdr hne2
    have s3 : Same H1 (upd (upd H1 dr (.own r)) r (.ins CR dr [])) := fun b o e => by
      rw [upd_ne (ne_of_none e hr0), upd_ne (ne_of_none e hdr)]
      exact e
    refine ⟨r, dr, a, rfl, upd_same, fun H2 R2 b2 => ⟨rfl, ?_⟩⟩
    have s4 : Same H1 H2 := fun b o e => b2 b o (s3 b o e) (ne_of_none e hr0)
    have A2 := A1.same s4
    have hrH : H r = none := s2.free hr0
    -- given = []
    refine ⟨Nat.zero_le _, fun g hg => ?_⟩
    have s5 : Same H2 (upd H2 g (.lst [])) := same_new hg
    have sH : Same H (upd H2 g (.lst [])) := (s2.trans s4).trans s5
    have hgH : H g = none := (s2.trans s4).free hg
    have g0 : g ∉ [c, m, l, t, r] := by
      obtain ⟨dc, hc⟩ := A2.cc.obj
      obtain ⟨dm, hm⟩ := A2.mm.obj
      obtain ⟨dr2, hr2⟩ := R2
      intro z
      simp at z
      rcases z with rfl | rfl | rfl | rfl | rfl
      · rw [hc] at hg; cases hg
      · rw [hm] at hg; cases hg
      · rw [A2.cc.lst] at hg; cases hg
      · rw [A2.mm.lst] at hg; cases hg
      · rw [hr2] at hg; cases hg
    refine ⟨fun n σ H' => ∃ (l t : Addr) (rows : List Addr) (s : Hist) (i : Nat) (given : List Int) (v4 : Option V), n = ns.length - i ∧ σ = [some (.ref a), some (.ref h), some (.ref r), some (.ref g), v4] ∧ Same H H' ∧ HistAt CC CM CH H' h c m l t rows s ∧ RAt CR H' r a i ∧
        H' g = some (.lst (given.map V.int)) ∧ (∀ x ∈ [c, m, l, t, r], H x = none) ∧ g ∉ [c, m, l, t, r] ∧ g ∉ rows ∧ Going ns i s given, ⟨_, l, t, [], new, 0, [], none, rfl, rfl, sH, A2.same s5, R2.same s5, upd_same, ?_, g0, by simp, going_start ask⟩, ?_⟩
    · intro x hx
      simp at hx
      rcases hx with rfl | rfl | rfl | rfl | rfl
      · exact f1' _ (by simp)
      · exact f1' _ (by simp)
      · exact f1' _ (by simp)
      · exact f1' _ (by simp)
      · exact hrH
    · rintro n σ H3 ⟨l, t, rows, sh, i, given, v4, rfl, rfl, s3', A3, R3, h3, fre, gno, gnr, G⟩
      obtain ⟨dr3, hr3⟩ := id R3
      refine ⟨_, rfl, r, dr3, _, rfl, hr3, look2_no _ _ (by decide +kernel) (by decide +kernel), r, a, i, ns, rfl, R3, s3'.seq S0, _, rfl, ?_⟩
      refine ite2 (fun hb => ?_) (fun hb => ?_)
      · have hi : i < ns.length := by
          cases e : decide (ns.length ≤ i) with
          | true => rw [e] at hb; cases hb
          | false => exact Nat.lt_of_not_le (of_decide_eq_false e)
        obtain ⟨k', t', rd, hgl, hal, hnx⟩ := G.turn hi
        refine ⟨_, fun σ' H' q => q, ?_⟩
        refine ⟨_, rfl, _, rfl, h, r, a, c, m, l, t, rows, sh, i, ns, k', t', rfl, A3, G.wf, R3, s3'.seq S0, nn, h30, rd, fun H4 p4 l4 t4 rows4 j A4 hl4 ht4 hw4 R4 hj hd4 fr4 hf4 h4 => ?_⟩
        have hg4 := fr4 g _ h3 gno
        have s4' : Same H H4 := fun b o e => fr4 b o (s3' b o e) fun z => by
          rw [fre b z] at e
          cases e
        have hpg : p4 ≠ g := fun z => by
          rw [z, h3] at hf4
          cases hf4
        have elen : (ansV (Wqatak.step sh k').2).length = (ansOf (Wqatak.step sh k').2).length := List.length_map ..
        refine ⟨_, rfl, .inl ⟨rfl, _, SqL.of hg4⟩, _, rfl, p4, _, rfl, .inl (SqL.of h4), g, _, _, rfl, rfl, hg4, by rw [List.length_map, sizeLine_eq]; omega, ?_⟩
        refine ⟨_, rfl, .inl ⟨rfl, _, SqL.of upd_same⟩, _, rfl, g, p4, _, _, rfl, rfl, upd_same, by rw [upd_ne hpg]; exact h4, ?_, ?_⟩
        · rw [List.length_append, List.length_map, List.length_singleton, elen, sizeLine_eq]
          omega
        have e5 : (given.map V.int ++ [V.int (((ansV (Wqatak.step sh k').2).length : Nat) : Int)]) ++ ansV (Wqatak.step sh k').2 = (given ++ ((ansOf (Wqatak.step sh k').2).length : Int) :: ansOf (Wqatak.step sh k').2).map V.int := by
          rw [elen]
          unfold ansV
          rw [List.map_append, List.map_cons, List.append_assoc]
          rfl
        rw [upd_upd, e5]
        have gno4 : g ∉ [c, m, l4, t4, r] := fun z => by
          simp at z gno
          obtain ⟨q1, q2, q3, q4, q5⟩ := gno
          rcases z with z | z | z | z | z
          · exact q1 z
          · exact q2 z
          · rcases hl4 with e | e
            · exact q3 (z.trans e)
            · rw [← z, h3] at e
              cases e
          · rcases ht4 with e | e
            · exact q4 (z.trans e)
            · rw [← z, h3] at e
              cases e
          · exact q5 z
        have hgw : ∀ (o : HO) (x : Addr) (u : HO), x ≠ g → H4 x = some u → (upd H4 g o) x = some u := fun o x u hx e => by
          rw [upd_ne hx]
          exact e
        obtain ⟨dh4, hh4⟩ := A4.obj
        obtain ⟨dc4, hc4⟩ := A4.cc.obj
        obtain ⟨dm4, hm4⟩ := A4.mm.obj
        obtain ⟨dr4, hr4⟩ := R4
        have gnr4 : g ∉ rows4 := fun z => (hw4 g z).elim gnr fun e => by
          rw [h3] at e
          cases e
        simp only [List.mem_cons, List.not_mem_nil, or_false, not_or] at gno4
        obtain ⟨q1, q2, q3, q4, q5⟩ := gno4
        have hhg : h ≠ g := ne_of hh4 hg4 (by intro z; cases z)
        refine ⟨ns.length - j, ?_, l4, t4, rows4, _, j, _, _, rfl, rfl, same_write hgH s4', ⟨⟨dh4, hgw _ _ _ hhg hh4⟩, ⟨⟨dc4, hgw _ _ _ (Ne.symm q1) hc4⟩, hgw _ _ _ (Ne.symm q3) A4.cc.lst, A4.cc.rws.keep fun x hx o e => hgw _ _ _ (fun z => gnr4 (z ▸ hx)) e, A4.cc.out⟩,
          ⟨⟨dm4, hgw _ _ _ (Ne.symm q2) hm4⟩, hgw _ _ _ (Ne.symm q4) A4.mm.lst⟩, A4.tl, A4.tr⟩, ⟨dr4, hgw _ _ _ (Ne.symm q5) hr4⟩, upd_same, ?_, ?_, gnr4, hnx j hj hd4⟩
        · have := Rd_shorter rd hj hd4
          omega
        · intro x hx
          simp only [List.mem_cons, List.not_mem_nil, or_false] at hx
          rcases hx with rfl | rfl | rfl | rfl | rfl
          · exact fre _ (by simp)
          · exact fre _ (by simp)
          · rcases hl4 with e | e
            · rw [e]
              exact fre _ (by simp)
            · exact s3'.free e
          · rcases ht4 with e | e
            · rw [e]
              exact fre _ (by simp)
            · exact s3'.free e
          · exact fre _ (by simp)
        · simp only [List.mem_cons, List.not_mem_nil, or_false, not_or]
          exact ⟨q1, q2, q3, q4, q5⟩
      · have hi : ns.length ≤ i := by
          cases e : decide (ns.length ≤ i) with
          | true => exact of_decide_eq_true e
          | false => rw [e] at hb; exact absurd rfl hb
        refine ⟨_, rfl, ?_⟩
        rw [G.done hi] at h3
        exact k H3 g h3
end
end Pr
end
section
set_option Elab.async false
set_option linter.all false
set_option maxRecDepth 100000
set_option maxHeartbeats 4000000
namespace Pr
open PySem PySem.Spec PyProof.Rows L2 Mb Mm
open PySem.W (Codec)
/-! ### what the top has written -/
def MF (K : PySem.W.Frag) (C : Addr) (nm qual : Str) (st : Stmt) : Prop := ∃ f fd, Fun K nm qual st f fd ∧ Meth K C nm f
def DFn (K : PySem.W.Frag) (nm : Str) (st : Stmt) : Prop := ∃ f fd, Fun K nm nm st f fd ∧ PySem.W.nsIn K mainGlobals nm = some (some (.ref f))
def NumIn (K : PySem.W.Frag) (nm : Str) (z : Int) : Prop := ∃ t, PySem.W.nsIn K mainGlobals nm = some (some (.int z t))
structure ClsIn (K : PySem.W.Frag) (C : Addr) (nm : Str) : Prop where
  cl : Cls K C
  mks : PySem.W.makesIn K C = true
  kc : PySem.W.keepIn K (.ref C) = true
theorem mf_mk {K : PySem.W.Frag} {C f : Addr} {nm qual : Str} {st : Stmt} {oc : Value} {od an : Option Addr} {osl : Array (Option Value)} {kV doc pm cdv ct : Value} (a : PySem.W.findIn K (.ref C) nm = some (some (.ref f))) (i : PySem.W.isFn K (.ref f) = true)
    (l : K.lookup f = some ⟨oc, od, .func (PySem.W.fnOf nm qual (defArgs st) (defBody st) (defScope st) .none kV doc pm an cdv ct), osl⟩) (c : PySem.W.codeIn K cdv qual = true) (k : PySem.W.keepIn K (.ref f) = true) : MF K C nm qual st :=
  ⟨f, _, fun_mk l c k, a, i, k⟩
theorem df_mk {K : PySem.W.Frag} {f : Addr} {nm : Str} {st : Stmt} {oc : Value} {od an : Option Addr} {osl : Array (Option Value)} {kV doc pm cdv ct : Value} (a : PySem.W.nsIn K mainGlobals nm = some (some (.ref f)))
    (l : K.lookup f = some ⟨oc, od, .func (PySem.W.fnOf nm nm (defArgs st) (defBody st) (defScope st) .none kV doc pm an cdv ct), osl⟩) (c : PySem.W.codeIn K cdv nm = true) (k : PySem.W.keepIn K (.ref f) = true) : DFn K nm st :=
  ⟨f, _, fun_mk l c k, a⟩
theorem num_mk {K : PySem.W.Frag} {nm : Str} {z : Int} {t : Tok} (a : PySem.W.nsIn K mainGlobals nm = some (some (.int z t))) : NumIn K nm z := ⟨t, a⟩
theorem cls_mk {K : PySem.W.Frag} {C : Addr} {nm : Str} (pg : PySem.W.plainGet K C Str.empty = true) (hd : PySem.W.hasDictIn K C = true) (po : PySem.W.plainOver K C = true) (sa : PySem.W.findIn K (.ref C) "__setattr__" = some (some (.builtin "object.__setattr__"))) (mk : PySem.W.makesIn K C = true) (kc : PySem.W.keepIn K (.ref C) = true) : ClsIn K C nm := ⟨⟨pg, hd, po, sa⟩, mk, kc⟩
theorem us1 {us : List Value} (h : us.length = 1) : ∃ a, us = [a] := List.length_eq_one_iff.mp h
theorem us2 {us : List Value} (h : us.length = 2) : ∃ a b, us = [a, b] := by
  cases us with
  | nil => cases h
  | cons a r =>
    obtain ⟨b, rfl⟩ := us1 (Nat.succ.inj h)
    exact ⟨a, b, rfl⟩
theorem us3 {us : List Value} (h : us.length = 3) : ∃ a b c, us = [a, b, c] := by
  cases us with
  | nil => cases h
  | cons a r =>
    obtain ⟨b, c, rfl⟩ := us2 (Nat.succ.inj h)
    exact ⟨a, b, c, rfl⟩
theorem us4 {us : List Value} (h : us.length = 4) : ∃ a b c d, us = [a, b, c, d] := by
  cases us with
  | nil => cases h
  | cons a r =>
    obtain ⟨b, c, d, rfl⟩ := us3 (Nat.succ.inj h)
    exact ⟨a, b, c, d, rfl⟩
theorem bd_one {kV doc pm : Value} {an : Option Addr} {cdv ct : Value} (us : List Value) (h : us.length = (["calls"] : List Str).length) : bindArgs (PySem.W.fnOf "answers" "answers" (defArgs aAns) (defBody aAns) (defScope aAns) .none kV doc pm an cdv ct) ⟨us, []⟩ = pure ((["calls"] : List Str).zip us) := by
  obtain ⟨a, rfl⟩ := us1 h
  rfl
theorem mt_mf {P : Program} {w : World} {K : PySem.W.Frag} {mg : Str → Option Value} {base : Heap} {C : Addr} {k : Nat} {nm qual : Str} {st : Stmt} {ps : List Str} {sp : Sp} (m : MF K C nm qual st) (F : ∀ {f : Addr} {fd : FuncData}, Fun K nm qual st f fd → FnOk P w K mg base CX0 k f fd ps sp) (b : ∀ {f : Addr} {fd : FuncData}, Fun K nm qual st f fd → Binds K fd ps []) : Mt P w K mg base C k nm ps sp :=
  let ⟨f, fd, G, M⟩ := m; ⟨f, fd, F G, M, b G⟩
theorem df_mf {P : Program} {w : World} {K : PySem.W.Frag} {h : Heap} {mg : Str → Option Value} {base : Heap} {k : Nat} {nm : Str} {st : Stmt} {ps : List Str} {sp : Sp} (X : K.In h) (N : h.Ns mainGlobals mg) (m : DFn K nm st) (F : ∀ {f : Addr} {fd : FuncData}, Fun K nm nm st f fd → FnOk P w K mg base CX0 k f fd ps sp) (b : ∀ {f : Addr} {fd : FuncData}, Fun K nm nm st f fd → Binds K fd ps []) : Df P w K mg base k nm ps sp :=
  let ⟨f, fd, G, M⟩ := m; ⟨f, fd, F G, PySem.W.mg_of X N M, G.kp, b G⟩
theorem mo_mf {P : Program} {w : World} {K : PySem.W.Frag} {h : Heap} {mg : Str → Option Value} {base : Heap} {C : Addr} {k : Nat} {x qual : Str} {st : Stmt} {ps : List Str} {sp : Sp} (X : K.In h) (N : h.Ns mainGlobals mg) (a : PySem.W.nsIn K mainGlobals x = some (some (.ref C))) (q : ClsIn K C x) (m : MF K C "__init__" qual st) (F : ∀ {f : Addr} {fd : FuncData}, Fun K "__init__" qual st f fd → FnOk P w K mg base CX0 k f fd ps sp) (b : ∀ {f : Addr} {fd : FuncData}, Fun K "__init__" qual st f fd → Binds K fd ps []) : Mo P w K mg base C k x ps sp :=
  let ⟨f, fd, G, M⟩ := m; ⟨f, fd, F G, ⟨q.mks, M.at_, M.fn, q.kc⟩, PySem.W.mg_of X N a, b G⟩
theorem bd_cI {K : PySem.W.Frag} {f : Addr} {fd : FuncData} (F : Fun K "__init__" "Commits.__init__" cI f fd) : Binds K fd ["self"] [] := F.binds fun _ _ _ _ _ _ us hl => by
  obtain ⟨x0, rfl⟩ := us1 hl
  rfl
theorem bd_total {K : PySem.W.Frag} {f : Addr} {fd : FuncData} (F : Fun K "total" "Commits.total" cTotal f fd) : Binds K fd ["self"] [] := F.binds fun _ _ _ _ _ _ us hl => by
  obtain ⟨x0, rfl⟩ := us1 hl
  rfl
theorem bd_addc {K : PySem.W.Frag} {f : Addr} {fd : FuncData} (F : Fun K "add_commit" "Commits.add_commit" cAdd f fd) : Binds K fd ["self", "parents"] [] := F.binds fun _ _ _ _ _ _ us hl => by
  obtain ⟨x0, x1, rfl⟩ := us2 hl
  rfl
theorem bd_par {K : PySem.W.Frag} {f : Addr} {fd : FuncData} (F : Fun K "parents_of" "Commits.parents_of" cPar f fd) : Binds K fd ["self", "commit"] [] := F.binds fun _ _ _ _ _ _ us hl => by
  obtain ⟨x0, x1, rfl⟩ := us2 hl
  rfl
theorem bd_reached {K : PySem.W.Frag} {f : Addr} {fd : FuncData} (F : Fun K "reached" "Commits.reached" cReached f fd) : Binds K fd ["self", "starts"] [] := F.binds fun _ _ _ _ _ _ us hl => by
  obtain ⟨x0, x1, rfl⟩ := us2 hl
  rfl
theorem bd_reaching {K : PySem.W.Frag} {f : Addr} {fd : FuncData} (F : Fun K "reaching" "Commits.reaching" cReaching f fd) : Binds K fd ["self", "ancestor"] [] := F.binds fun _ _ _ _ _ _ us hl => by
  obtain ⟨x0, x1, rfl⟩ := us2 hl
  rfl
theorem bd_comes {K : PySem.W.Frag} {f : Addr} {fd : FuncData} (F : Fun K "comes_from" "Commits.comes_from" cComes f fd) : Binds K fd ["self", "commit", "ancestor"] [] := F.binds fun _ _ _ _ _ _ us hl => by
  obtain ⟨x0, x1, x2, rfl⟩ := us3 hl
  rfl
theorem bd_fewest {K : PySem.W.Frag} {f : Addr} {fd : FuncData} (F : Fun K "fewest_steps" "Commits.fewest_steps" cFewest f fd) : Binds K fd ["self", "start", "goal"] [] := F.binds fun _ _ _ _ _ _ us hl => by
  obtain ⟨x0, x1, x2, rfl⟩ := us3 hl
  rfl
theorem bd_common {K : PySem.W.Frag} {f : Addr} {fd : FuncData} (F : Fun K "common_ancestors" "Commits.common_ancestors" cCommon f fd) : Binds K fd ["self", "members"] [] := F.binds fun _ _ _ _ _ _ us hl => by
  obtain ⟨x0, x1, rfl⟩ := us2 hl
  rfl
theorem bd_heads {K : PySem.W.Frag} {f : Addr} {fd : FuncData} (F : Fun K "heads" "Commits.heads" cHeads f fd) : Binds K fd ["self", "members"] [] := F.binds fun _ _ _ _ _ _ us hl => by
  obtain ⟨x0, x1, rfl⟩ := us2 hl
  rfl
theorem bd_best {K : PySem.W.Frag} {f : Addr} {fd : FuncData} (F : Fun K "best_common" "Commits.best_common" cBest f fd) : Binds K fd ["self", "members"] [] := F.binds fun _ _ _ _ _ _ us hl => by
  obtain ⟨x0, x1, rfl⟩ := us2 hl
  rfl
theorem bd_falling {K : PySem.W.Frag} {f : Addr} {fd : FuncData} (F : Fun K "falling" "Commits.falling" cFalling f fd) : Binds K fd ["self"] [] := F.binds fun _ _ _ _ _ _ us hl => by
  obtain ⟨x0, rfl⟩ := us1 hl
  rfl
theorem bd_walk {K : PySem.W.Frag} {f : Addr} {fd : FuncData} (F : Fun K "walk" "Commits.walk" cWalk f fd) : Binds K fd ["self", "first", "second"] [] := F.binds fun _ _ _ _ _ _ us hl => by
  obtain ⟨x0, x1, x2, rfl⟩ := us3 hl
  rfl
theorem bd_between {K : PySem.W.Frag} {f : Addr} {fd : FuncData} (F : Fun K "between" "Commits.between" cBetween f fd) : Binds K fd ["self", "upper", "lower"] [] := F.binds fun _ _ _ _ _ _ us hl => by
  obtain ⟨x0, x1, x2, rfl⟩ := us3 hl
  rfl
theorem bd_look {K : PySem.W.Frag} {f : Addr} {fd : FuncData} (F : Fun K "best_look" "Commits.best_look" cLook f fd) : Binds K fd ["self", "candidates"] [] := F.binds fun _ _ _ _ _ _ us hl => by
  obtain ⟨x0, x1, rfl⟩ := us2 hl
  rfl
theorem bd_keep {K : PySem.W.Frag} {f : Addr} {fd : FuncData} (F : Fun K "keep_reached" "Commits.keep_reached" cKeep f fd) : Binds K fd ["self", "starts"] [] := F.binds fun _ _ _ _ _ _ us hl => by
  obtain ⟨x0, x1, rfl⟩ := us2 hl
  rfl
theorem bd_mI {K : PySem.W.Frag} {f : Addr} {fd : FuncData} (F : Fun K "__init__" "Marks.__init__" mI f fd) : Binds K fd ["self"] [] := F.binds fun _ _ _ _ _ _ us hl => by
  obtain ⟨x0, rfl⟩ := us1 hl
  rfl
theorem bd_target {K : PySem.W.Frag} {f : Addr} {fd : FuncData} (F : Fun K "target_of" "Marks.target_of" mTarget f fd) : Binds K fd ["self", "mark"] [] := F.binds fun _ _ _ _ _ _ us hl => by
  obtain ⟨x0, x1, rfl⟩ := us2 hl
  rfl
theorem bd_point {K : PySem.W.Frag} {f : Addr} {fd : FuncData} (F : Fun K "point" "Marks.point" mPoint f fd) : Binds K fd ["self", "mark", "commit"] [] := F.binds fun _ _ _ _ _ _ us hl => by
  obtain ⟨x0, x1, x2, rfl⟩ := us3 hl
  rfl
theorem bd_marked {K : PySem.W.Frag} {f : Addr} {fd : FuncData} (F : Fun K "marked_commits" "Marks.marked_commits" mMarked f fd) : Binds K fd ["self"] [] := F.binds fun _ _ _ _ _ _ us hl => by
  obtain ⟨x0, rfl⟩ := us1 hl
  rfl
theorem bd_renum {K : PySem.W.Frag} {f : Addr} {fd : FuncData} (F : Fun K "renumber" "Marks.renumber" mRenum f fd) : Binds K fd ["self", "new_numbers"] [] := F.binds fun _ _ _ _ _ _ us hl => by
  obtain ⟨x0, x1, rfl⟩ := us2 hl
  rfl
theorem bd_rI {K : PySem.W.Frag} {f : Addr} {fd : FuncData} (F : Fun K "__init__" "Reader.__init__" rI' f fd) : Binds K fd ["self", "numbers"] [] := F.binds fun _ _ _ _ _ _ us hl => by
  obtain ⟨x0, x1, rfl⟩ := us2 hl
  rfl
theorem bd_endd {K : PySem.W.Frag} {f : Addr} {fd : FuncData} (F : Fun K "at_end" "Reader.at_end" rEnd f fd) : Binds K fd ["self"] [] := F.binds fun _ _ _ _ _ _ us hl => by
  obtain ⟨x0, rfl⟩ := us1 hl
  rfl
theorem bd_num {K : PySem.W.Frag} {f : Addr} {fd : FuncData} (F : Fun K "read_number" "Reader.read_number" rNum f fd) : Binds K fd ["self"] [] := F.binds fun _ _ _ _ _ _ us hl => by
  obtain ⟨x0, rfl⟩ := us1 hl
  rfl
theorem bd_row {K : PySem.W.Frag} {f : Addr} {fd : FuncData} (F : Fun K "read_row" "Reader.read_row" rRow f fd) : Binds K fd ["self"] [] := F.binds fun _ _ _ _ _ _ us hl => by
  obtain ⟨x0, rfl⟩ := us1 hl
  rfl
theorem bd_hI {K : PySem.W.Frag} {f : Addr} {fd : FuncData} (F : Fun K "__init__" "History.__init__" hI f fd) : Binds K fd ["self"] [] := F.binds fun _ _ _ _ _ _ us hl => by
  obtain ⟨x0, rfl⟩ := us1 hl
  rfl
theorem bd_all {K : PySem.W.Frag} {f : Addr} {fd : FuncData} (F : Fun K "all_there" "all_there" dAll f fd) : Binds K fd ["commits", "members"] [] := F.binds fun _ _ _ _ _ _ us hl => by
  obtain ⟨x0, x1, rfl⟩ := us2 hl
  rfl
theorem bd_fit {K : PySem.W.Frag} {f : Addr} {fd : FuncData} (F : Fun K "fit_set" "fit_set" dFit f fd) : Binds K fd ["commits", "members"] [] := F.binds fun _ _ _ _ _ _ us hl => by
  obtain ⟨x0, x1, rfl⟩ := us2 hl
  rfl
theorem bd_fit2 {K : PySem.W.Frag} {f : Addr} {fd : FuncData} (F : Fun K "fit_two_sets" "fit_two_sets" dFit2 f fd) : Binds K fd ["commits", "first", "second"] [] := F.binds fun _ _ _ _ _ _ us hl => by
  obtain ⟨x0, x1, x2, rfl⟩ := us3 hl
  rfl
theorem bd_counted {K : PySem.W.Frag} {f : Addr} {fd : FuncData} (F : Fun K "counted" "counted" dCounted f fd) : Binds K fd ["told"] [] := F.binds fun _ _ _ _ _ _ us hl => by
  obtain ⟨x0, rfl⟩ := us1 hl
  rfl
theorem bd_aAdd {K : PySem.W.Frag} {f : Addr} {fd : FuncData} (F : Fun K "answer_add" "answer_add" aAdd f fd) : Binds K fd ["commits", "parents"] [] := F.binds fun _ _ _ _ _ _ us hl => by
  obtain ⟨x0, x1, rfl⟩ := us2 hl
  rfl
theorem bd_aPar {K : PySem.W.Frag} {f : Addr} {fd : FuncData} (F : Fun K "answer_parents" "answer_parents" aPar f fd) : Binds K fd ["commits", "a"] [] := F.binds fun _ _ _ _ _ _ us hl => by
  obtain ⟨x0, x1, rfl⟩ := us2 hl
  rfl
theorem bd_aComes {K : PySem.W.Frag} {f : Addr} {fd : FuncData} (F : Fun K "answer_comes_from" "answer_comes_from" aComes f fd) : Binds K fd ["commits", "a", "b"] [] := F.binds fun _ _ _ _ _ _ us hl => by
  obtain ⟨x0, x1, x2, rfl⟩ := us3 hl
  rfl
theorem bd_aSteps {K : PySem.W.Frag} {f : Addr} {fd : FuncData} (F : Fun K "answer_steps" "answer_steps" aSteps f fd) : Binds K fd ["commits", "a", "b"] [] := F.binds fun _ _ _ _ _ _ us hl => by
  obtain ⟨x0, x1, x2, rfl⟩ := us3 hl
  rfl
theorem bd_aBest {K : PySem.W.Frag} {f : Addr} {fd : FuncData} (F : Fun K "answer_best" "answer_best" aBest f fd) : Binds K fd ["commits", "members"] [] := F.binds fun _ _ _ _ _ _ us hl => by
  obtain ⟨x0, x1, rfl⟩ := us2 hl
  rfl
theorem bd_aHeads {K : PySem.W.Frag} {f : Addr} {fd : FuncData} (F : Fun K "answer_heads" "answer_heads" aHeads f fd) : Binds K fd ["commits", "members"] [] := F.binds fun _ _ _ _ _ _ us hl => by
  obtain ⟨x0, x1, rfl⟩ := us2 hl
  rfl
theorem bd_aWalk {K : PySem.W.Frag} {f : Addr} {fd : FuncData} (F : Fun K "answer_walk" "answer_walk" aWalk f fd) : Binds K fd ["commits", "first", "second"] [] := F.binds fun _ _ _ _ _ _ us hl => by
  obtain ⟨x0, x1, x2, rfl⟩ := us3 hl
  rfl
theorem bd_aBetween {K : PySem.W.Frag} {f : Addr} {fd : FuncData} (F : Fun K "answer_between" "answer_between" aBetween f fd) : Binds K fd ["commits", "a", "b"] [] := F.binds fun _ _ _ _ _ _ us hl => by
  obtain ⟨x0, x1, x2, rfl⟩ := us3 hl
  rfl
theorem bd_aHalve {K : PySem.W.Frag} {f : Addr} {fd : FuncData} (F : Fun K "answer_halve" "answer_halve" aHalve f fd) : Binds K fd ["commits", "first", "second"] [] := F.binds fun _ _ _ _ _ _ us hl => by
  obtain ⟨x0, x1, x2, rfl⟩ := us3 hl
  rfl
theorem bd_aMark {K : PySem.W.Frag} {f : Addr} {fd : FuncData} (F : Fun K "answer_mark" "answer_mark" aMark f fd) : Binds K fd ["history", "mark", "commit", "force"] [] := F.binds fun _ _ _ _ _ _ us hl => by
  obtain ⟨x0, x1, x2, x3, rfl⟩ := us4 hl
  rfl
theorem bd_aMarked {K : PySem.W.Frag} {f : Addr} {fd : FuncData} (F : Fun K "answer_marked" "answer_marked" aMarked f fd) : Binds K fd ["marks", "mark"] [] := F.binds fun _ _ _ _ _ _ us hl => by
  obtain ⟨x0, x1, rfl⟩ := us2 hl
  rfl
theorem bd_aPrune {K : PySem.W.Frag} {f : Addr} {fd : FuncData} (F : Fun K "answer_prune" "answer_prune" aPrune f fd) : Binds K fd ["history"] [] := F.binds fun _ _ _ _ _ _ us hl => by
  obtain ⟨x0, rfl⟩ := us1 hl
  rfl
theorem bd_aRow {K : PySem.W.Frag} {f : Addr} {fd : FuncData} (F : Fun K "answer_of_row" "answer_of_row" aRow f fd) : Binds K fd ["commits", "call", "row"] [] := F.binds fun _ _ _ _ _ _ us hl => by
  obtain ⟨x0, x1, x2, rfl⟩ := us3 hl
  rfl
theorem bd_aPair {K : PySem.W.Frag} {f : Addr} {fd : FuncData} (F : Fun K "answer_of_pair" "answer_of_pair" aPair f fd) : Binds K fd ["commits", "call", "a", "b"] [] := F.binds fun _ _ _ _ _ _ us hl => by
  obtain ⟨x0, x1, x2, x3, rfl⟩ := us4 hl
  rfl
theorem bd_aTwo {K : PySem.W.Frag} {f : Addr} {fd : FuncData} (F : Fun K "answer_of_two_sets" "answer_of_two_sets" aTwo f fd) : Binds K fd ["commits", "call", "first", "second"] [] := F.binds fun _ _ _ _ _ _ us hl => by
  obtain ⟨x0, x1, x2, x3, rfl⟩ := us4 hl
  rfl
theorem bd_call {K : PySem.W.Frag} {f : Addr} {fd : FuncData} (F : Fun K "answer_call" "answer_call" aCall f fd) : Binds K fd ["history", "reader"] [] := F.binds fun _ _ _ _ _ _ us hl => by
  obtain ⟨x0, x1, rfl⟩ := us2 hl
  rfl
theorem bd_ans {K : PySem.W.Frag} {f : Addr} {fd : FuncData} (F : Fun K "answers" "answers" aAns f fd) : Binds K fd ["calls"] [] := F.binds fun _ _ _ _ _ _ us hl => by
  obtain ⟨x0, rfl⟩ := us1 hl
  rfl
theorem mt_of {P : Program} {w : World} {K : PySem.W.Frag} {mg : Str → Option Value} {base : Heap} {C f : Addr} {fd : FuncData} {k : Nat} {m : Str} {ps : List Str} {sp : Sp} (F : FnOk P w K mg base CX0 k f fd ps sp) (M : Meth K C m f) (b : Binds K fd ps []) : Mt P w K mg base C k m ps sp := ⟨f, fd, F, M, b⟩
theorem df_of {P : Program} {w : World} {K : PySem.W.Frag} {h : Heap} {mg : Str → Option Value} {base : Heap} {f : Addr} {fd : FuncData} {k : Nat} {x : Str} {ps : List Str} {sp : Sp} (X : K.In h) (G : h.Ns mainGlobals mg) (F : FnOk P w K mg base CX0 k f fd ps sp) (a : PySem.W.nsIn K mainGlobals x = some (some (.ref f))) (kp : PySem.W.keepIn K (.ref f) = true) (b : Binds K fd ps []) : Df P w K mg base k x ps sp := ⟨f, fd, F, PySem.W.mg_of X G a, kp, b⟩
theorem all_mk {P : Program} {w : World} {K : PySem.W.Frag} {h : Heap} {mg : Str → Option Value} {fa CC CM CR CH : Addr} (X : K.In h) (G : h.Ns mainGlobals mg) (hfa : mg "answers" = some (.ref fa))
    (aCC : PySem.W.nsIn K mainGlobals "Commits" = some (some (.ref CC))) (qCC : ClsIn K CC "Commits") (nCC_parents : PySem.W.findIn K (.ref CC) "parents" = some none)
    (aCM : PySem.W.nsIn K mainGlobals "Marks" = some (some (.ref CM))) (qCM : ClsIn K CM "Marks") (nCM_targets : PySem.W.findIn K (.ref CM) "targets" = some none)
    (aCR : PySem.W.nsIn K mainGlobals "Reader" = some (some (.ref CR))) (qCR : ClsIn K CR "Reader") (nCR_numbers : PySem.W.findIn K (.ref CR) "numbers" = some none) (nCR_place : PySem.W.findIn K (.ref CR) "place" = some none)
    (aCH : PySem.W.nsIn K mainGlobals "History" = some (some (.ref CH))) (qCH : ClsIn K CH "History") (nCH_commits : PySem.W.findIn K (.ref CH) "commits" = some none) (nCH_marks : PySem.W.findIn K (.ref CH) "marks" = some none)
    (z_len : PySem.W.nsIn K mainGlobals "len" = some none)
    (z_list : PySem.W.nsIn K mainGlobals "list" = some none)
    (z_range : PySem.W.nsIn K mainGlobals "range" = some none)
    (z_any : PySem.W.nsIn K mainGlobals "any" = some none)
    (z_all : PySem.W.nsIn K mainGlobals "all" = some none)
    (z_set : PySem.W.nsIn K mainGlobals "set" = some none)
    (z_sorted : PySem.W.nsIn K mainGlobals "sorted" = some none)
    (z_reversed : PySem.W.nsIn K mainGlobals "reversed" = some none)
    (z_min : PySem.W.nsIn K mainGlobals "min" = some none)
    (u_ADD : NumIn K "ADD" 0)
    (u_PARENTS : NumIn K "PARENTS" 1)
    (u_COMES_FROM : NumIn K "COMES_FROM" 2)
    (u_STEPS : NumIn K "STEPS" 3)
    (u_BEST : NumIn K "BEST" 4)
    (u_HEADS : NumIn K "HEADS" 5)
    (u_WALK : NumIn K "WALK" 6)
    (u_BETWEEN : NumIn K "BETWEEN" 7)
    (u_HALVE : NumIn K "HALVE" 8)
    (u_MARK : NumIn K "MARK" 9)
    (u_MARKED : NumIn K "MARKED" 10)
    (u_PRUNE : NumIn K "PRUNE" 11)
    (u_MOST_COMMITS : NumIn K "MOST_COMMITS" 128)
    (u_MOST_PARENTS : NumIn K "MOST_PARENTS" 8)
    (u_MOST_IN_SET : NumIn K "MOST_IN_SET" 64)
    (u_HOW_MANY_MARKS : NumIn K "HOW_MANY_MARKS" 64)
    (m_cI : MF K CC "__init__" "Commits.__init__" cI)
    (m_total : MF K CC "total" "Commits.total" cTotal)
    (m_addc : MF K CC "add_commit" "Commits.add_commit" cAdd)
    (m_par : MF K CC "parents_of" "Commits.parents_of" cPar)
    (m_reached : MF K CC "reached" "Commits.reached" cReached)
    (m_reaching : MF K CC "reaching" "Commits.reaching" cReaching)
    (m_comes : MF K CC "comes_from" "Commits.comes_from" cComes)
    (m_fewest : MF K CC "fewest_steps" "Commits.fewest_steps" cFewest)
    (m_common : MF K CC "common_ancestors" "Commits.common_ancestors" cCommon)
    (m_heads : MF K CC "heads" "Commits.heads" cHeads)
    (m_best : MF K CC "best_common" "Commits.best_common" cBest)
    (m_falling : MF K CC "falling" "Commits.falling" cFalling)
    (m_walk : MF K CC "walk" "Commits.walk" cWalk)
    (m_between : MF K CC "between" "Commits.between" cBetween)
    (m_look : MF K CC "best_look" "Commits.best_look" cLook)
    (m_keep : MF K CC "keep_reached" "Commits.keep_reached" cKeep)
    (m_mI : MF K CM "__init__" "Marks.__init__" mI)
    (m_target : MF K CM "target_of" "Marks.target_of" mTarget)
    (m_point : MF K CM "point" "Marks.point" mPoint)
    (m_marked : MF K CM "marked_commits" "Marks.marked_commits" mMarked)
    (m_renum : MF K CM "renumber" "Marks.renumber" mRenum)
    (m_rI : MF K CR "__init__" "Reader.__init__" rI')
    (m_endd : MF K CR "at_end" "Reader.at_end" rEnd)
    (m_num : MF K CR "read_number" "Reader.read_number" rNum)
    (m_row : MF K CR "read_row" "Reader.read_row" rRow)
    (m_hI : MF K CH "__init__" "History.__init__" hI)
    (d_all : DFn K "all_there" dAll)
    (d_fit : DFn K "fit_set" dFit)
    (d_fit2 : DFn K "fit_two_sets" dFit2)
    (d_counted : DFn K "counted" dCounted)
    (d_aAdd : DFn K "answer_add" aAdd)
    (d_aPar : DFn K "answer_parents" aPar)
    (d_aComes : DFn K "answer_comes_from" aComes)
    (d_aSteps : DFn K "answer_steps" aSteps)
    (d_aBest : DFn K "answer_best" aBest)
    (d_aHeads : DFn K "answer_heads" aHeads)
    (d_aWalk : DFn K "answer_walk" aWalk)
    (d_aBetween : DFn K "answer_between" aBetween)
    (d_aHalve : DFn K "answer_halve" aHalve)
    (d_aMark : DFn K "answer_mark" aMark)
    (d_aMarked : DFn K "answer_marked" aMarked)
    (d_aPrune : DFn K "answer_prune" aPrune)
    (d_aRow : DFn K "answer_of_row" aRow)
    (d_aPair : DFn K "answer_of_pair" aPair)
    (d_aTwo : DFn K "answer_of_two_sets" aTwo)
    (d_call : DFn K "answer_call" aCall)
    (d_ans : DFn K "answers" aAns)
    : ∃ fd : FuncData, (∀ (s : Shared) (us : List Value), us.length = (["calls"] : List Str).length → BindsTo s fd ⟨us, []⟩ ((["calls"] : List Str).zip us)) ∧ ∀ base : Heap, K.In base → base.Ns mainGlobals mg → FnOk P w K mg base CX0 8 fa fd ["calls"] (spAns K) := by
  have T : Txt K mg CC CM CR CH := ⟨qCC.cl, qCM.cl, qCR.cl, qCH.cl, nCC_parents, nCM_targets, nCR_numbers, nCR_place, nCH_commits, nCH_marks, PySem.W.mg_none_of X G z_len, PySem.W.mg_none_of X G z_list, PySem.W.mg_none_of X G z_range, PySem.W.mg_none_of X G z_any, PySem.W.mg_none_of X G z_all, PySem.W.mg_none_of X G z_set, PySem.W.mg_none_of X G z_sorted, PySem.W.mg_none_of X G z_reversed, PySem.W.mg_none_of X G z_min, by
    intro p hp
    simp only [List.mem_cons, List.not_mem_nil, or_false] at hp
    rcases hp with rfl | rfl | rfl | rfl | rfl | rfl | rfl | rfl | rfl | rfl | rfl | rfl | rfl | rfl | rfl | rfl
    · obtain ⟨t, e⟩ := u_ADD; exact ⟨t, PySem.W.mg_of X G e⟩
    · obtain ⟨t, e⟩ := u_PARENTS; exact ⟨t, PySem.W.mg_of X G e⟩
    · obtain ⟨t, e⟩ := u_COMES_FROM; exact ⟨t, PySem.W.mg_of X G e⟩
    · obtain ⟨t, e⟩ := u_STEPS; exact ⟨t, PySem.W.mg_of X G e⟩
    · obtain ⟨t, e⟩ := u_BEST; exact ⟨t, PySem.W.mg_of X G e⟩
    · obtain ⟨t, e⟩ := u_HEADS; exact ⟨t, PySem.W.mg_of X G e⟩
    · obtain ⟨t, e⟩ := u_WALK; exact ⟨t, PySem.W.mg_of X G e⟩
    · obtain ⟨t, e⟩ := u_BETWEEN; exact ⟨t, PySem.W.mg_of X G e⟩
    · obtain ⟨t, e⟩ := u_HALVE; exact ⟨t, PySem.W.mg_of X G e⟩
    · obtain ⟨t, e⟩ := u_MARK; exact ⟨t, PySem.W.mg_of X G e⟩
    · obtain ⟨t, e⟩ := u_MARKED; exact ⟨t, PySem.W.mg_of X G e⟩
    · obtain ⟨t, e⟩ := u_PRUNE; exact ⟨t, PySem.W.mg_of X G e⟩
    · obtain ⟨t, e⟩ := u_MOST_COMMITS; exact ⟨t, PySem.W.mg_of X G e⟩
    · obtain ⟨t, e⟩ := u_MOST_PARENTS; exact ⟨t, PySem.W.mg_of X G e⟩
    · obtain ⟨t, e⟩ := u_MOST_IN_SET; exact ⟨t, PySem.W.mg_of X G e⟩
    · obtain ⟨t, e⟩ := u_HOW_MANY_MARKS; exact ⟨t, PySem.W.mg_of X G e⟩⟩
  obtain ⟨f_ans, fd_ans, F_ans, M_ans⟩ := d_ans
  have e := hfa.symm.trans (PySem.W.mg_of X G M_ans)
  cases e
  refine ⟨fd_ans, fun s us hu => ?_, fun base _ _ => ?_⟩
  · obtain ⟨oc, od, kV, doc, pm, an, cdv, ct, osl, rfl, lk, hcd⟩ := F_ans.ex
    exact .of_eq (bd_one us hu)
  · skip
    have O_C := mo_mf (P := P) (w := w) (base := base) X G aCC qCC m_cI (fun F => ok_cI F T ) bd_cI
    have H_total := mt_mf (P := P) (w := w) (base := base) m_total (fun F => ok_total F T ) bd_total
    have H_addc := mt_mf (P := P) (w := w) (base := base) m_addc (fun F => ok_add F T ) bd_addc
    have H_par := mt_mf (P := P) (w := w) (base := base) m_par (fun F => ok_par F T ) bd_par
    have H_reached := mt_mf (P := P) (w := w) (base := base) m_reached (fun F => ok_reached F T ) bd_reached
    have H_reaching := mt_mf (P := P) (w := w) (base := base) m_reaching (fun F => ok_reaching F T ) bd_reaching
    have H_comes := mt_mf (P := P) (w := w) (base := base) m_comes (fun F => ok_comes F T H_reached) bd_comes
    have H_fewest := mt_mf (P := P) (w := w) (base := base) m_fewest (fun F => ok_fewest F T ) bd_fewest
    have H_common := mt_mf (P := P) (w := w) (base := base) m_common (fun F => ok_common F T H_reached) bd_common
    have H_heads := mt_mf (P := P) (w := w) (base := base) m_heads (fun F => ok_heads F T H_reached) bd_heads
    have H_best := mt_mf (P := P) (w := w) (base := base) m_best (fun F => ok_best F T H_common H_heads) bd_best
    have H_falling := mt_mf (P := P) (w := w) (base := base) m_falling (fun F => ok_falling F T ) bd_falling
    have H_walk := mt_mf (P := P) (w := w) (base := base) m_walk (fun F => ok_walk F T H_reached H_falling) bd_walk
    have H_between := mt_mf (P := P) (w := w) (base := base) m_between (fun F => ok_between F T H_reached H_reaching H_falling) bd_between
    have H_look := mt_mf (P := P) (w := w) (base := base) m_look (fun F => ok_look F T H_reached) bd_look
    have H_keep := mt_mf (P := P) (w := w) (base := base) m_keep (fun F => ok_keep F T H_reached) bd_keep
    have O_M := mo_mf (P := P) (w := w) (base := base) X G aCM qCM m_mI (fun F => ok_mI F T ) bd_mI
    have H_target := mt_mf (P := P) (w := w) (base := base) m_target (fun F => ok_target F T ) bd_target
    have H_point := mt_mf (P := P) (w := w) (base := base) m_point (fun F => ok_point F T ) bd_point
    have H_marked := mt_mf (P := P) (w := w) (base := base) m_marked (fun F => ok_marked F T ) bd_marked
    have H_renum := mt_mf (P := P) (w := w) (base := base) m_renum (fun F => ok_renum F T ) bd_renum
    have O_R := mo_mf (P := P) (w := w) (base := base) X G aCR qCR m_rI (fun F => ok_rI F T ) bd_rI
    have H_endd := mt_mf (P := P) (w := w) (base := base) m_endd (fun F => ok_end F T ) bd_endd
    have H_num := mt_mf (P := P) (w := w) (base := base) m_num (fun F => ok_num F T ) bd_num
    have H_row := mt_mf (P := P) (w := w) (base := base) m_row (fun F => ok_row F T H_num) bd_row
    have O_H := mo_mf (P := P) (w := w) (base := base) X G aCH qCH m_hI (fun F => ok_hI F T O_C O_M) bd_hI
    have H_all := df_mf (P := P) (w := w) (base := base) X G d_all (fun F => ok_all F T H_total) bd_all
    have H_fit := df_mf (P := P) (w := w) (base := base) X G d_fit (fun F => ok_fit F T H_all) bd_fit
    have H_fit2 := df_mf (P := P) (w := w) (base := base) X G d_fit2 (fun F => ok_fit2 F T H_all H_fit) bd_fit2
    have H_counted := df_mf (P := P) (w := w) (base := base) X G d_counted (fun F => ok_counted F T ) bd_counted
    have H_aAdd := df_mf (P := P) (w := w) (base := base) X G d_aAdd (fun F => ok_aAdd F T H_all H_total H_addc) bd_aAdd
    have H_aPar := df_mf (P := P) (w := w) (base := base) X G d_aPar (fun F => ok_aPar F T H_all H_counted H_par) bd_aPar
    have H_aComes := df_mf (P := P) (w := w) (base := base) X G d_aComes (fun F => ok_aComes F T H_all H_comes) bd_aComes
    have H_aSteps := df_mf (P := P) (w := w) (base := base) X G d_aSteps (fun F => ok_aSteps F T H_all H_fewest) bd_aSteps
    have H_aBest := df_mf (P := P) (w := w) (base := base) X G d_aBest (fun F => ok_aBest F T H_fit H_counted H_best) bd_aBest
    have H_aHeads := df_mf (P := P) (w := w) (base := base) X G d_aHeads (fun F => ok_aHeads F T H_fit H_counted H_heads) bd_aHeads
    have H_aWalk := df_mf (P := P) (w := w) (base := base) X G d_aWalk (fun F => ok_aWalk F T H_fit2 H_counted H_walk) bd_aWalk
    have H_aBetween := df_mf (P := P) (w := w) (base := base) X G d_aBetween (fun F => ok_aBetween F T H_all H_counted H_between) bd_aBetween
    have H_aHalve := df_mf (P := P) (w := w) (base := base) X G d_aHalve (fun F => ok_aHalve F T H_fit2 H_walk H_look) bd_aHalve
    have H_aMark := df_mf (P := P) (w := w) (base := base) X G d_aMark (fun F => ok_aMark F T H_all H_target H_comes H_point) bd_aMark
    have H_aMarked := df_mf (P := P) (w := w) (base := base) X G d_aMarked (fun F => ok_aMarked F T H_target) bd_aMarked
    have H_aPrune := df_mf (P := P) (w := w) (base := base) X G d_aPrune (fun F => ok_aPrune F T H_total H_keep H_marked H_renum) bd_aPrune
    have H_aRow := df_mf (P := P) (w := w) (base := base) X G d_aRow (fun F => ok_aRow F T H_aAdd H_aBest H_aHeads) bd_aRow
    have H_aPair := df_mf (P := P) (w := w) (base := base) X G d_aPair (fun F => ok_aPair F T H_aComes H_aSteps H_aBetween) bd_aPair
    have H_aTwo := df_mf (P := P) (w := w) (base := base) X G d_aTwo (fun F => ok_aTwo F T H_aWalk H_aHalve) bd_aTwo
    have H_call := df_mf (P := P) (w := w) (base := base) X G d_call (fun F => ok_call F T H_num H_row H_aRow H_aPair H_aTwo H_aPar H_aMark H_aMarked H_aPrune) bd_call
    exact ok_ans (P := P) (w := w) (base := base) F_ans T O_H O_R H_endd H_call
end Pr
end
set_option Elab.async false
set_option linter.all false
/-! names that spare the head copies -/
theorem PySem.W.Fast.te4681442818209628952 : True := trivial
def PySem.W.Fast.tw9620731730047047796 : PySem.Program := PySem.Challenge.pw_mergebases_s01_answers
theorem PySem.W.Fast.te9620731730047047796 : PySem.Challenge.pw_mergebases_s01_answers = PySem.W.Fast.tw9620731730047047796 := rfl
theorem PySem.W.Fast.tw6896982141459686603 : True := trivial
theorem PySem.W.Fast.tw8835888009694843305 : True := trivial
theorem PySem.W.Fast.tw15885513796874848031 : True := trivial
theorem PySem.W.Fast.tw14563758287575445113 : True := trivial
theorem PySem.W.Fast.tw4133991732888215162 : True := trivial
theorem PySem.W.Fast.tw16973970828477154192 : True := trivial
theorem PySem.W.Fast.tw15666252298181982229 : True := trivial
open PySem PySem.W PyProof.Rows
set_option maxRecDepth 100000 in
set_option maxHeartbeats 0 in
theorem PySem.Challenge.cw_mergebases_s01_answers_holds : PySem.Challenge.rw_mergebases_s01_answers.Holds := by
  w_on; k_headS; (case hw => exact ⟨[.list [.int 11]], by decide +kernel, by decide +kernel⟩)
  k_fillS
  refine L2.walk_specK (r := PySem.Challenge.rw_mergebases_s01_answers) (k := 8) (CX := L2.CX0) (ps := ["calls"]) (sp := Pr.spAns) (by decide +kernel) rfl rfl ⟨rfl, by decide, by decide⟩ (fun w h Y => PySem.W.kIn_of Y) ?F ?S (fun _ _ _ _ z => z)
  case F =>
    intro w mg fa h Y KX G hmg
    refine' Pr.all_mk KX G hmg ?aCC ?qCC ?nCC_parents ?aCM ?qCM ?nCM_targets ?aCR ?qCR ?nCR_numbers ?nCR_place ?aCH ?qCH ?nCH_commits ?nCH_marks ?z_len ?z_list ?z_range ?z_any ?z_all ?z_set ?z_sorted ?z_reversed ?z_min ?u_ADD ?u_PARENTS ?u_COMES_FROM ?u_STEPS ?u_BEST ?u_HEADS ?u_WALK ?u_BETWEEN ?u_HALVE ?u_MARK ?u_MARKED ?u_PRUNE ?u_MOST_COMMITS ?u_MOST_PARENTS ?u_MOST_IN_SET ?u_HOW_MANY_MARKS ?m_cI ?m_total ?m_addc ?m_par ?m_reached ?m_reaching ?m_comes ?m_fewest ?m_common ?m_heads ?m_best ?m_falling ?m_walk ?m_between ?m_look ?m_keep ?m_mI ?m_target ?m_point ?m_marked ?m_renum ?m_rI ?m_endd ?m_num ?m_row ?m_hI ?d_all ?d_fit ?d_fit2 ?d_counted ?d_aAdd ?d_aPar ?d_aComes ?d_aSteps ?d_aBest ?d_aHeads ?d_aWalk ?d_aBetween ?d_aHalve ?d_aMark ?d_aMarked ?d_aPrune ?d_aRow ?d_aPair ?d_aTwo ?d_call ?d_ans
    (case aCC => k_is)
    (case qCC => refine' Pr.cls_mk ?pg ?hd ?po ?sa ?mk ?kc; (case pg => k_is); (case hd => k_is); (case po => k_is); (case sa => k_is); (case mk => k_is); (case kc => k_is))
    (case nCC_parents => k_is)
    (case aCM => k_is)
    (case qCM => refine' Pr.cls_mk ?pg ?hd ?po ?sa ?mk ?kc; (case pg => k_is); (case hd => k_is); (case po => k_is); (case sa => k_is); (case mk => k_is); (case kc => k_is))
    (case nCM_targets => k_is)
    (case aCR => k_is)
    (case qCR => refine' Pr.cls_mk ?pg ?hd ?po ?sa ?mk ?kc; (case pg => k_is); (case hd => k_is); (case po => k_is); (case sa => k_is); (case mk => k_is); (case kc => k_is))
    (case nCR_numbers => k_is)
    (case nCR_place => k_is)
    (case aCH => k_is)
    (case qCH => refine' Pr.cls_mk ?pg ?hd ?po ?sa ?mk ?kc; (case pg => k_is); (case hd => k_is); (case po => k_is); (case sa => k_is); (case mk => k_is); (case kc => k_is))
    (case nCH_commits => k_is)
    (case nCH_marks => k_is)
    (case z_len => k_is)
    (case z_list => k_is)
    (case z_range => k_is)
    (case z_any => k_is)
    (case z_all => k_is)
    (case z_set => k_is)
    (case z_sorted => k_is)
    (case z_reversed => k_is)
    (case z_min => k_is)
    (case u_ADD => refine' Pr.num_mk ?a; (case a => k_is))
    (case u_PARENTS => refine' Pr.num_mk ?a; (case a => k_is))
    (case u_COMES_FROM => refine' Pr.num_mk ?a; (case a => k_is))
    (case u_STEPS => refine' Pr.num_mk ?a; (case a => k_is))
    (case u_BEST => refine' Pr.num_mk ?a; (case a => k_is))
    (case u_HEADS => refine' Pr.num_mk ?a; (case a => k_is))
    (case u_WALK => refine' Pr.num_mk ?a; (case a => k_is))
    (case u_BETWEEN => refine' Pr.num_mk ?a; (case a => k_is))
    (case u_HALVE => refine' Pr.num_mk ?a; (case a => k_is))
    (case u_MARK => refine' Pr.num_mk ?a; (case a => k_is))
    (case u_MARKED => refine' Pr.num_mk ?a; (case a => k_is))
    (case u_PRUNE => refine' Pr.num_mk ?a; (case a => k_is))
    (case u_MOST_COMMITS => refine' Pr.num_mk ?a; (case a => k_is))
    (case u_MOST_PARENTS => refine' Pr.num_mk ?a; (case a => k_is))
    (case u_MOST_IN_SET => refine' Pr.num_mk ?a; (case a => k_is))
    (case u_HOW_MANY_MARKS => refine' Pr.num_mk ?a; (case a => k_is))
    (case m_cI => refine' Pr.mf_mk ?a ?i ?l ?c ?k; (case a => k_is); (case i => k_is); (case l => k_is); (case c => k_is); (case k => k_is))
    (case m_total => refine' Pr.mf_mk ?a ?i ?l ?c ?k; (case a => k_is); (case i => k_is); (case l => k_is); (case c => k_is); (case k => k_is))
    (case m_addc => refine' Pr.mf_mk ?a ?i ?l ?c ?k; (case a => k_is); (case i => k_is); (case l => k_is); (case c => k_is); (case k => k_is))
    (case m_par => refine' Pr.mf_mk ?a ?i ?l ?c ?k; (case a => k_is); (case i => k_is); (case l => k_is); (case c => k_is); (case k => k_is))
    (case m_reached => refine' Pr.mf_mk ?a ?i ?l ?c ?k; (case a => k_is); (case i => k_is); (case l => k_is); (case c => k_is); (case k => k_is))
    (case m_reaching => refine' Pr.mf_mk ?a ?i ?l ?c ?k; (case a => k_is); (case i => k_is); (case l => k_is); (case c => k_is); (case k => k_is))
    (case m_comes => refine' Pr.mf_mk ?a ?i ?l ?c ?k; (case a => k_is); (case i => k_is); (case l => k_is); (case c => k_is); (case k => k_is))
    (case m_fewest => refine' Pr.mf_mk ?a ?i ?l ?c ?k; (case a => k_is); (case i => k_is); (case l => k_is); (case c => k_is); (case k => k_is))
    (case m_common => refine' Pr.mf_mk ?a ?i ?l ?c ?k; (case a => k_is); (case i => k_is); (case l => k_is); (case c => k_is); (case k => k_is))
    (case m_heads => refine' Pr.mf_mk ?a ?i ?l ?c ?k; (case a => k_is); (case i => k_is); (case l => k_is); (case c => k_is); (case k => k_is))
    (case m_best => refine' Pr.mf_mk ?a ?i ?l ?c ?k; (case a => k_is); (case i => k_is); (case l => k_is); (case c => k_is); (case k => k_is))
    (case m_falling => refine' Pr.mf_mk ?a ?i ?l ?c ?k; (case a => k_is); (case i => k_is); (case l => k_is); (case c => k_is); (case k => k_is))
    (case m_walk => refine' Pr.mf_mk ?a ?i ?l ?c ?k; (case a => k_is); (case i => k_is); (case l => k_is); (case c => k_is); (case k => k_is))
    (case m_between => refine' Pr.mf_mk ?a ?i ?l ?c ?k; (case a => k_is); (case i => k_is); (case l => k_is); (case c => k_is); (case k => k_is))
    (case m_look => refine' Pr.mf_mk ?a ?i ?l ?c ?k; (case a => k_is); (case i => k_is); (case l => k_is); (case c => k_is); (case k => k_is))
    (case m_keep => refine' Pr.mf_mk ?a ?i ?l ?c ?k; (case a => k_is); (case i => k_is); (case l => k_is); (case c => k_is); (case k => k_is))
    (case m_mI => refine' Pr.mf_mk ?a ?i ?l ?c ?k; (case a => k_is); (case i => k_is); (case l => k_is); (case c => k_is); (case k => k_is))
    (case m_target => refine' Pr.mf_mk ?a ?i ?l ?c ?k; (case a => k_is); (case i => k_is); (case l => k_is); (case c => k_is); (case k => k_is))
    (case m_point => refine' Pr.mf_mk ?a ?i ?l ?c ?k; (case a => k_is); (case i => k_is); (case l => k_is); (case c => k_is); (case k => k_is))
    (case m_marked => refine' Pr.mf_mk ?a ?i ?l ?c ?k; (case a => k_is); (case i => k_is); (case l => k_is); (case c => k_is); (case k => k_is))
    (case m_renum => refine' Pr.mf_mk ?a ?i ?l ?c ?k; (case a => k_is); (case i => k_is); (case l => k_is); (case c => k_is); (case k => k_is))
    (case m_rI => refine' Pr.mf_mk ?a ?i ?l ?c ?k; (case a => k_is); (case i => k_is); (case l => k_is); (case c => k_is); (case k => k_is))
    (case m_endd => refine' Pr.mf_mk ?a ?i ?l ?c ?k; (case a => k_is); (case i => k_is); (case l => k_is); (case c => k_is); (case k => k_is))
    (case m_num => refine' Pr.mf_mk ?a ?i ?l ?c ?k; (case a => k_is); (case i => k_is); (case l => k_is); (case c => k_is); (case k => k_is))
    (case m_row => refine' Pr.mf_mk ?a ?i ?l ?c ?k; (case a => k_is); (case i => k_is); (case l => k_is); (case c => k_is); (case k => k_is))
    (case m_hI => refine' Pr.mf_mk ?a ?i ?l ?c ?k; (case a => k_is); (case i => k_is); (case l => k_is); (case c => k_is); (case k => k_is))
    (case d_all => refine' Pr.df_mk ?a ?l ?c ?k; (case a => k_is); (case l => k_is); (case c => k_is); (case k => k_is))
    (case d_fit => refine' Pr.df_mk ?a ?l ?c ?k; (case a => k_is); (case l => k_is); (case c => k_is); (case k => k_is))
    (case d_fit2 => refine' Pr.df_mk ?a ?l ?c ?k; (case a => k_is); (case l => k_is); (case c => k_is); (case k => k_is))
    (case d_counted => refine' Pr.df_mk ?a ?l ?c ?k; (case a => k_is); (case l => k_is); (case c => k_is); (case k => k_is))
    (case d_aAdd => refine' Pr.df_mk ?a ?l ?c ?k; (case a => k_is); (case l => k_is); (case c => k_is); (case k => k_is))
    (case d_aPar => refine' Pr.df_mk ?a ?l ?c ?k; (case a => k_is); (case l => k_is); (case c => k_is); (case k => k_is))
    (case d_aComes => refine' Pr.df_mk ?a ?l ?c ?k; (case a => k_is); (case l => k_is); (case c => k_is); (case k => k_is))
    (case d_aSteps => refine' Pr.df_mk ?a ?l ?c ?k; (case a => k_is); (case l => k_is); (case c => k_is); (case k => k_is))
    (case d_aBest => refine' Pr.df_mk ?a ?l ?c ?k; (case a => k_is); (case l => k_is); (case c => k_is); (case k => k_is))
    (case d_aHeads => refine' Pr.df_mk ?a ?l ?c ?k; (case a => k_is); (case l => k_is); (case c => k_is); (case k => k_is))
    (case d_aWalk => refine' Pr.df_mk ?a ?l ?c ?k; (case a => k_is); (case l => k_is); (case c => k_is); (case k => k_is))
    (case d_aBetween => refine' Pr.df_mk ?a ?l ?c ?k; (case a => k_is); (case l => k_is); (case c => k_is); (case k => k_is))
    (case d_aHalve => refine' Pr.df_mk ?a ?l ?c ?k; (case a => k_is); (case l => k_is); (case c => k_is); (case k => k_is))
    (case d_aMark => refine' Pr.df_mk ?a ?l ?c ?k; (case a => k_is); (case l => k_is); (case c => k_is); (case k => k_is))
    (case d_aMarked => refine' Pr.df_mk ?a ?l ?c ?k; (case a => k_is); (case l => k_is); (case c => k_is); (case k => k_is))
    (case d_aPrune => refine' Pr.df_mk ?a ?l ?c ?k; (case a => k_is); (case l => k_is); (case c => k_is); (case k => k_is))
    (case d_aRow => refine' Pr.df_mk ?a ?l ?c ?k; (case a => k_is); (case l => k_is); (case c => k_is); (case k => k_is))
    (case d_aPair => refine' Pr.df_mk ?a ?l ?c ?k; (case a => k_is); (case l => k_is); (case c => k_is); (case k => k_is))
    (case d_aTwo => refine' Pr.df_mk ?a ?l ?c ?k; (case a => k_is); (case l => k_is); (case c => k_is); (case k => k_is))
    (case d_call => refine' Pr.df_mk ?a ?l ?c ?k; (case a => k_is); (case l => k_is); (case c => k_is); (case k => k_is))
    (case d_ans => refine' Pr.df_mk ?a ?l ?c ?k; (case a => k_is); (case l => k_is); (case c => k_is); (case k => k_is))
  case S =>
    intro K H xs a hO hwi hask hx
    cases hx with
    | cons h1 h2 =>
      cases h2
      cases h1 with
      | lst hs ha =>
        have e := L2.ints_dw a.1 _ ha
        subst e
        have q : ((Codec.inLen 0 30000 a.1 && a.1.all (Codec.inInt 0 4294967295)) && true) = true := hwi
        rw [Bool.and_eq_true, Bool.and_eq_true, List.all_eq_true] at q
        exact ⟨_, a.1, rfl, hs, fun z hz => (Codec.inInt_iff.mp (q.1.2 z hz)).1, (Codec.inNat_iff.mp q.1.1).2, hask, fun H' p hp => .lst (L2.SqL.of hp) (L2.dw_ints _)⟩
#print axioms PySem.Challenge.cw_mergebases_s01_answers_holds

